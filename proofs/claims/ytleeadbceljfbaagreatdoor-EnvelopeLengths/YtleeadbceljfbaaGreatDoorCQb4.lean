import Derived.Test.YtleeadbceljfbaaGreatDoorCQb3
namespace Go.Proofs.YtleeadbceljfbaaGreatDoor
set_option maxRecDepth 100000
open Go Go.RowKit Go.Sort
attribute [local go_sem] setCell_drewN alloc_drewN
def hdr : List Slt := [.mk 1 5 32 32 [], .mk 2 2 0 4294967295 [], .mk 3 2 0 4294967295 []]
def hcs : Array Value := #[.int .i64 1, .int .i64 5, .int .u64 32, .int .u64 32, .slice none 0 0, .int .i64 2, .int .i64 2, .int .u64 0, .int .u64 4294967295, .slice none 0 0, .int .i64 3, .int .i64 2, .int .u64 0, .int .u64 4294967295, .slice none 0 0]
theorem hdr_vld : vld hdr = 0 := by
 have h1 : ¬ lft hdr 1 256 < 0 := by simp [lft, hdr, lfL, fitN, fitB]
 have e10 : (en 10).length = 1 := by rw [en_lo (by decide)]; rfl
 have e32 : (en 32).length = 1 := by rw [en_lo (by decide)]; rfl
 have e21 : (en 21).length = 1 := by rw [en_lo (by decide)]; rfl
 have e29 : (en 29).length = 1 := by rw [en_lo (by decide)]; rfl
 have h2 : (spL hdr 0 0).2 = 44 := by simp [hdr, spL, slsz, hdl, tyOf, frm, cpd, e10, e32, e21, e29]
 rw [vld, if_neg h1, if_neg (by rw [h2]; decide)]
theorem slo_nil (W : World) : Slo W (.slice none 0 0) [] := Slo.mk none 0 [] [] (by simp) (by simp) (fun _ => rfl) (fun i hi => by simp at hi) (fun i hi => by simp at hi)
theorem hdr_slo {W : World} {g : Nat} (h : Bx W g hcs) : Slo W (.slice (some ⟨g, 0, none⟩) 3 3) hdr := by
 have hlt := h.lt
 refine Slo.mk (some ⟨g, 0, none⟩) 3 hdr [.slice none 0 0, .slice none 0 0, .slice none 0 0] (by simp [hdr]) (by simp [hdr]) (fun e => by cases e) (fun i hi => ⟨g, 0, rfl, hlt, ?_, ?_⟩) (fun i hi => ?_)
 · obtain ⟨T, h⟩ := h
   intro j v hv
   rw [cell_of_row _ _ _ _ _ _ h]
   have hj : j < 5 := by have := (List.getElem?_eq_some_iff.1 hv).1; simpa [srow] using this
   have hi3 : i < 3 := hi
   rcases (by omega : i = 0 ∨ i = 1 ∨ i = 2) with rfl | rfl | rfl <;> rcases (by omega : j = 0 ∨ j = 1 ∨ j = 2 ∨ j = 3 ∨ j = 4) with rfl | rfl | rfl | rfl | rfl <;> exact hv
 · have hi3 : i < 3 := hi
   rcases (by omega : i = 0 ∨ i = 1 ∨ i = 2) with rfl | rfl | rfl <;> (unfold Sok; decide)
 · have hi3 : i < 3 := hi
   rcases (by omega : i = 0 ∨ i = 1 ∨ i = 2) with rfl | rfl | rfl <;> exact slo_nil W
theorem hdr_flat : ∀ i, i < hdr.length → Fla (gs hdr i) := fun i hi => by
 have hi3 : i < 3 := hi
 rcases (by omega : i = 0 ∨ i = 1 ∨ i = 2) with rfl | rfl | rfl <;> (unfold Fla; decide)
set_option maxRecDepth 100000 in
set_option maxHeartbeats 4000000 in
theorem a_compiledH (w : World) (g : Nat) (h : Bx w g hcs) : Calls Tryz.prog 49 #[.slice (some ⟨g, 0, none⟩) 3 3] w fun e w' => (∃ q, e = .returned (.pointer (some ⟨q, 0, none⟩)) ∧ w.heap.size ≤ q ∧ Cdc w' q hdr) ∧ Below w.heap.size w w' := by
 have cC := a_Compile (hdr_slo h) w (Below.refl _ _)
 go_enter Tryz.func49, Tryz.ntmps49
 go_wp2_with (fail)
 refine cC.mono ?_
 rintro e_ w1 ⟨hb, hq⟩
 rcases hq with ⟨_, q, rfl, hq1, hq2⟩ | ⟨hq, _⟩
 · have A1 := hide hq2
   have A2 := hide hb
   clear cC hq2 hb h
   go_wp2_with (fail)
   go_ret
   exact ⟨⟨q, rfl, hq1, A1.out⟩, A2.out⟩
 · exact absurd hdr_vld hq
theorem infoSlo : (Tryz.prog.info? 99).map (·.size) = some 5 := by kernel_rfl
set_option maxRecDepth 100000 in
set_option maxHeartbeats 4000000 in
theorem a_sized (no size : Int) (w : World) : Calls Tryz.prog 50 #[.int .i64 no, .int .u64 size] w fun e w' => e = .returned (.agg #[.int .i64 no, .int .i64 5, .int .u64 size, .int .u64 size, .slice none 0 0]) ∧ Below w.heap.size w w' := by
 have hb : Below w.heap.size w (w.alloc (.cells #[.int .i64 0, .int .i64 0, .int .u64 0, .int .u64 0, .slice none 0 0] 99)) := (Below.refl _ _).alloc (Nat.le_refl _) _
 have r1 := hp1_0 w (.cells #[.int .i64 0, .int .i64 0, .int .u64 0, .int .u64 0, .slice none 0 0] 99)
 have hb2 := below_setRow (g := w.heap.size) hb (Nat.le_refl _) #[.int .i64 no, .int .i64 5, .int .u64 size, .int .u64 size, .slice none 0 0]
 have r2 := setRow_heap _ w.heap.size _ (#[.int .i64 no, .int .i64 5, .int .u64 size, .int .u64 size, .slice none 0 0]) _ _ r1
 have hone : (#[Value.int .i64 no, .int .i64 5, .int .u64 size, .int .u64 size, .slice none 0 0] : Array Value).all (·.oneCell') = true := by simp [Value.oneCell']
 have A1 := hide hb2
 have A2 := hide r2
 clear hb hb2 r2
 go_enter Tryz.func50, Tryz.ntmps50
 go_wp2_with (first | (refine wpList_store_row rfl 99 _ _ rfl w.heap.size #[.int .i64 no, .int .i64 5, .int .u64 size, .int .u64 size, .slice none 0 0] rfl rfl 99 _ r1 infoSlo rfl hone ?_) | fail)
 exact bodyPost_ret (v := .agg #[.int .i64 no, .int .i64 5, .int .u64 size, .int .u64 size, .slice none 0 0]) (results_cell_row Tryz.results50 _ _ w.heap.size _ _ _ _ rfl A2.out Tryz.underlying99 rfl infoSlo) rfl ⟨rfl, A1.out⟩
set_option maxRecDepth 100000 in
set_option maxHeartbeats 4000000 in
theorem a_headerCodec (w : World) : Calls Tryz.prog 35 #[] w fun e w' => (∃ q, e = .returned (.pointer (some ⟨q, 0, none⟩)) ∧ w.heap.size ≤ q ∧ Cdc w' q hdr) ∧ Below w.heap.size w w' := by
 have cS := a_sized 1 32 w
 go_enter Tryz.func35, Tryz.ntmps35
 go_wp2_with (fail)
 refine cS.mono ?_
 rintro e_ w1 ⟨rfl, hb⟩
 clear cS
 have cK := a_compiledH (w1.alloc (.cells hcs 99)) w1.heap.size ⟨_, hp1_0 w1 _⟩
 have hba : Below w1.heap.size w1 (w1.alloc (.cells hcs 99)) := (Below.refl _ _).alloc (Nat.le_refl _) _
 have A1 := hide (Below.after hb hba)
 have hsz : w.heap.size ≤ (w1.alloc (.cells hcs 99)).heap.size := A1.out.size
 clear hba hb
 unfold hcs at *
 go_wp2_with (fail)
 refine cK.mono ?_
 rintro e_ w2 ⟨⟨q, rfl, hq1, hq2⟩, hb2⟩
 have A2 := hide hq2
 have A3 := hide (Below.after A1.out hb2)
 clear cK hq2 hb2
 go_wp2_with (fail)
 go_ret
 exact ⟨⟨q, rfl, Nat.le_trans hsz hq1, A2.out⟩, A3.out⟩
end Go.Proofs.YtleeadbceljfbaaGreatDoor
namespace Go.Proofs.YtleeadbceljfbaaGreatDoor
set_option maxRecDepth 100000
open Go Go.RowKit Go.Sort
attribute [local go_sem] setCell_drewN alloc_drewN
section
variable {P : Program} {ops : Array Oper} {Q : Exit → Act → World → Prop} {md : Region.Mode} {S : World → Prop}
theorem wpAnyH_two {j k : Nat} {oj ok : Oper} {fuel : Nat} {listed : Array Bool} {a : Act} {w : World} (hr : Region.ready md ops listed = [j, k]) (hj : ops[j]? = some oj) (hk : ops[k]? = some ok) (wj : Region.wanted oj (yielded ops a.tmps) = true) (wk : Region.wanted ok (yielded ops a.tmps) = true)
   (h1 : ∀ K : Act → World → Prop, (∀ a' w', S w' → wpAnyH P md ops Q S fuel (listed.setIfInBounds j true) a' w' → K a' w') → oj.wp P a w K Q)
   (h2 : ∀ K : Act → World → Prop, (∀ a' w', S w' → wpAnyH P md ops Q S fuel (listed.setIfInBounds k true) a' w' → K a' w') → ok.wp P a w K Q) : wpAnyH P md ops Q S (fuel + 1) listed a w := by
 refine wpAnyH_all hr (by simp) (fun i hi' => ?_)
 obtain rfl | rfl : i = j ∨ i = k := by simpa using hi'
 · unfold wpOp
   simp only [hj, wj, if_true]
   exact .inl (h1 _ (fun a' w' hS hn => ⟨hS, hn⟩))
 · unfold wpOp
   simp only [hk, wk, if_true]
   exact .inl (h2 _ (fun a' w' hS hn => ⟨hS, hn⟩))
end
def hrw (pub : List B) (prev m : Nat) : Array Value := irow .u8 (bl pub) ++ #[.int .u32 (prev : Int), .int .u32 (m : Int)]
theorem hrw_prev (pub : List B) (hp : pub.length = 32) (prev m : Nat) : (hrw pub prev m)[32]? = some (.int .u32 (prev : Int)) := by
 have : (irow .u8 (bl pub)).size = 32 := by simp [irow, bl, hp]
 unfold hrw
 rw [Array.getElem?_append_right (by omega), this]
 rfl
theorem hrw_m (pub : List B) (hp : pub.length = 32) (prev m : Nat) : (hrw pub prev m)[33]? = some (.int .u32 (m : Int)) := by
 have : (irow .u8 (bl pub)).size = 32 := by simp [irow, bl, hp]
 unfold hrw
 rw [Array.getElem?_append_right (by omega), this]
 rfl
def hxs (g prev m : Nat) : List VR := [⟨0, some ⟨g, 0, none⟩, 32, 32, none, 0, 0⟩, ⟨prev, none, 0, 0, none, 0, 0⟩, ⟨m, none, 0, 0, none, 0, 0⟩]
def hps (g prev m : Nat) : Array Value := #[.int .u64 0, .slice (some ⟨g, 0, none⟩) 32 32, .slice none 0 0, .int .u64 (prev : Int), .slice none 0 0, .slice none 0 0, .int .u64 (m : Int), .slice none 0 0, .slice none 0 0]
theorem hdr_prt {W : World} {g gs prev m : Nat} (h1 : prev < 4294967296) (h2 : m < 4294967296) (h : Bx W gs (hps g prev m)) : Prt W (.slice (some ⟨gs, 0, none⟩) 3 3) (hxs g prev m) := by
 have hlt := h.lt
 refine ⟨some ⟨gs, 0, none⟩, 3, rfl, by simp [hxs], fun i hi => ?_, fun i hi => ⟨gs, 0, rfl, hlt, ?_⟩⟩
 · have hi3 : i < 3 := hi
   rcases (by omega : i = 0 ∨ i = 1 ∨ i = 2) with rfl | rfl | rfl
   · exact ⟨by show 0 < _; omega, by show 32 < _; omega⟩
   · exact ⟨by show prev < _; omega, by show 0 < _; omega⟩
   · exact ⟨by show m < _; omega, by show 0 < _; omega⟩
 · obtain ⟨T, h⟩ := h
   intro j v hv
   rw [cell_of_row _ _ _ _ _ _ h]
   have hi3 : i < 3 := hi
   have hj : j < 3 := by
     have := (List.getElem?_eq_some_iff.1 hv).1
     simpa [vrv, vrw] using this
   rcases (by omega : i = 0 ∨ i = 1 ∨ i = 2) with rfl | rfl | rfl <;> rcases (by omega : j = 0 ∨ j = 1 ∨ j = 2) with rfl | rfl | rfl <;> exact hv
theorem hdr_ck (g prev m : Nat) (h1 : prev < 4294967296) (h2 : m < 4294967296) : ckF hdr 0 0 (hxs g prev m) 1 = none := by
 have e1 : wth (prev : Int) 0 4294967295 = 0 := by unfold wth; rw [if_neg (by omega)]
 have e2 : wth (m : Int) 0 4294967295 = 0 := by unfold wth; rw [if_neg (by omega)]
 have e0 : wth 32 32 32 = 0 := by decide
 simp [ckF, hdr, hxs, chF, pckT, pck, pbad, ftE, Slt.kind, Slt.least, Slt.most, e0, e1, e2]
theorem hdr_bys {W : World} {g : Nat} {pub : List B} {prev m : Nat} (hp : pub.length = 32) (h1 : prev < 4294967296) (h2 : m < 4294967296) (h : Bx W g (hrw pub prev m)) : ∀ i, i < hdr.length → BysB W (.slice (gx (hxs g prev m) i).da (gx (hxs g prev m) i).dl (gx (hxs g prev m) i).dc) (gd1 [pub, [], []] i) ∧ Fok (fdF (gs hdr i) (gx (hxs g prev m) i) (gd1 [pub, [], []] i)) := fun i hi => by
 obtain ⟨T, h⟩ := h
 have hlt := lt_of_row h
 have hi3 : i < 3 := hi
 rcases (by omega : i = 0 ∨ i = 1 ∨ i = 2) with rfl | rfl | rfl
 · refine ⟨⟨⟨some ⟨g, 0, none⟩, 32, ?_, ?_, fun j hj => ?_, bl_bnd _⟩, ?_, fun a l c e1 e2 => ?_⟩, ?_⟩
   · show Value.slice (some ⟨g, 0, none⟩) 32 32 = .slice _ (bl pub).length 32
     rw [bl_len, hp]
   · show (bl pub).length ≤ _
     rw [bl_len, hp]; decide
   · have hj' : j < pub.length := by rw [← bl_len]; exact hj
     refine ⟨g, 0, rfl, hlt, ?_⟩
     rw [Nat.zero_add]
     have := trow_cell (l := pub) (T := #[.int .u32 (prev : Int), .int .u32 (m : Int)]) h hj'
     rw [this]
     show _ = some (Value.int .u8 ((bl pub).getD j 0))
     rw [bl_get]
     rfl
   · show pub.length ≤ _
     omega
   · cases e1; cases e2
   · refine ⟨by show 0 < _; omega, by show pub.length ≤ _; omega, by show (-9223372036854775808 : Int) ≤ 1; decide, by show (1 : Int) ≤ _; decide⟩
 · exact ⟨bys_nil W, by show prev < _; omega, by show 0 ≤ _; omega, by show (-9223372036854775808 : Int) ≤ 2; decide, by show (2 : Int) ≤ _; decide⟩
 · exact ⟨bys_nil W, by show m < _; omega, by show 0 ≤ _; omega, by show (-9223372036854775808 : Int) ≤ 3; decide, by show (3 : Int) ≤ _; decide⟩
theorem bHdr (cs : Array Value) (W : World) : (Instr.box 37 (.agg cs)).run Tryz.prog W = .ok (.pointer (some ⟨W.heap.size, 0, none⟩)) (W.alloc (.cells cs 37)) := by kernel_rfl
set_option maxRecDepth 100000 in
set_option maxHeartbeats 4000000 in
theorem a_PackHeader (pub : List B) (hp : pub.length = 32) (prev m : Nat) (h1 : prev < 4294967296) (h2 : m < 4294967296) (w : World) : Calls Tryz.prog 20 #[.agg (hrw pub prev m)] w fun e w' => ∃ u, e = .returned u ∧ Own w' w.heap.size u (eout (fdk hdr (hxs w.heap.size prev m) [pub, [], []] 3)) ∧ Below w.heap.size w w' := by
 have hbh := bHdr (hrw pub prev m)
 have wp1 : IntKind.wrap .u64 (prev : Int) = (prev : Int) := by show (prev : Int) % 18446744073709551616 = prev; omega
 have wp2 : IntKind.wrap .u64 (m : Int) = (m : Int) := by show (m : Int) % 18446744073709551616 = m; omega
 have rH := hp1_0 w (.cells (hrw pub prev m) 37)
 have hb0 : Below w.heap.size w (w.alloc (.cells (hrw pub prev m) 37)) := (Below.refl _ _).alloc (Nat.le_refl _) _
 go_enter Tryz.func20, Tryz.ntmps20
 go_wp2_with (first | (refine wpList_box rfl 37 _ rfl _ rfl (bHdr _) ?_; refine wpList_stay ?_) | fail)
 try unfold WpStay
 have hS0 : (fun W : World => Bx W w.heap.size (hrw pub prev m)) _ := ⟨_, rH⟩
 refine wp_region_held (S := fun W : World => Bx W w.heap.size (hrw pub prev m)) (by kernel_rfl) ?_
 change wpAnyH _ _ _ _ _ _ _ _ (World.drew _)
 generalize w.alloc (.cells (hrw pub prev m) 37) = w0 at *
 have hbd : Below w0.heap.size w0 w0.drew := below_drN (Below.refl _ _) 1
 replace hS0 : (fun W : World => Bx W w.heap.size (hrw pub prev m)) w0.drew := hS0
 replace hb0 := Below.after hb0 hbd
 clear hbd rH
 generalize w0.drew = w1 at *
 refine wpAnyH_take (i := 1) (v := ?v1) rfl (by kernel_rfl) (by kernel_rfl) (by kernel_rfl) (fun _ _ _ h => h) (Or.inl ⟨by rfl, ?y1⟩) hS0 ?r1
 case y1 =>
   intro w_ hS_
   go_simp
   try with_reducible rfl
 simp only [Act.put, List.getElem_toArray, List.getElem_cons_succ, List.getElem_cons_zero, List.setIfInBounds_toArray, List.set_cons_succ, List.set_cons_zero]
 refine wpAnyH_take (i := 2) (v := .slice (some ⟨w.heap.size, 0, none⟩) 32 32) rfl (by kernel_rfl) (by kernel_rfl) (by kernel_rfl) (fun _ _ _ h => h) (Or.inl ⟨by rfl, ?y2⟩) hS0 ?r2
 case y2 =>
   intro w_ hS_
   go_simp
   try with_reducible rfl
 simp only [Act.put, List.getElem_toArray, List.getElem_cons_succ, List.getElem_cons_zero, List.setIfInBounds_toArray, List.set_cons_succ, List.set_cons_zero]
 refine wpAnyH_take (i := 3) (v := .agg #[.int .u64 0, .slice (some ⟨w.heap.size, 0, none⟩) 32 32, .slice none 0 0]) rfl (by kernel_rfl) (by kernel_rfl) (by kernel_rfl) (fun _ _ _ h => h) (Or.inl ⟨by rfl, ?y11⟩) hS0 ?r11
 case y11 =>
   intro w_ hS_
   go_simp
   try with_reducible rfl
 simp only [Act.put, List.getElem_toArray, List.getElem_cons_succ, List.getElem_cons_zero, List.setIfInBounds_toArray, List.set_cons_succ, List.set_cons_zero]
 refine wpAnyH_take (i := 4) (v := ?v12) rfl (by kernel_rfl) (by kernel_rfl) (by kernel_rfl) (fun _ _ _ h => h) (Or.inl ⟨by rfl, ?y12⟩) hS0 ?r12
 case y12 =>
   intro w_ hS_
   go_simp
   try with_reducible rfl
 simp only [Act.put, List.getElem_toArray, List.getElem_cons_succ, List.getElem_cons_zero, List.setIfInBounds_toArray, List.set_cons_succ, List.set_cons_zero]
 refine wpAnyH_take (i := 5) (v := .int .u32 (prev : Int)) rfl (by kernel_rfl) (by kernel_rfl) (by kernel_rfl) (fun _ _ _ h => h) (Or.inl ⟨by rfl, ?y13⟩) hS0 ?r13
 case y13 =>
   intro w_ hS_
   obtain ⟨_, h_⟩ := hS_
   have c_ : w_.cell? ⟨w.heap.size, 32, none⟩ = some (.int .u32 (prev : Int)) := by rw [cell_of_row _ _ _ _ _ _ h_]; exact hrw_prev pub hp prev m
   go_simp
   try with_reducible rfl
 simp only [Act.put, List.getElem_toArray, List.getElem_cons_succ, List.getElem_cons_zero, List.setIfInBounds_toArray, List.set_cons_succ, List.set_cons_zero]
 refine wpAnyH_take (i := 6) (v := .int .u64 (prev : Int)) rfl (by kernel_rfl) (by kernel_rfl) (by kernel_rfl) (fun _ _ _ h => h) (Or.inl ⟨by rfl, ?y14⟩) hS0 ?r14
 case y14 =>
   intro w_ hS_
   go_simp
   try with_reducible rfl
 simp only [Act.put, List.getElem_toArray, List.getElem_cons_succ, List.getElem_cons_zero, List.setIfInBounds_toArray, List.set_cons_succ, List.set_cons_zero]
 refine wpAnyH_take (i := 7) (v := .agg #[.int .u64 (prev : Int), .slice none 0 0, .slice none 0 0]) rfl (by kernel_rfl) (by kernel_rfl) (by kernel_rfl) (fun _ _ _ h => h) (Or.inl ⟨by rfl, ?y15⟩) hS0 ?r15
 case y15 =>
   intro w_ hS_
   go_simp
   try with_reducible rfl
 simp only [Act.put, List.getElem_toArray, List.getElem_cons_succ, List.getElem_cons_zero, List.setIfInBounds_toArray, List.set_cons_succ, List.set_cons_zero]
 refine wpAnyH_take (i := 8) (v := ?v16) rfl (by kernel_rfl) (by kernel_rfl) (by kernel_rfl) (fun _ _ _ h => h) (Or.inl ⟨by rfl, ?y16⟩) hS0 ?r16
 case y16 =>
   intro w_ hS_
   go_simp
   try with_reducible rfl
 simp only [Act.put, List.getElem_toArray, List.getElem_cons_succ, List.getElem_cons_zero, List.setIfInBounds_toArray, List.set_cons_succ, List.set_cons_zero]
 refine wpAnyH_take (i := 9) (v := .int .u32 (m : Int)) rfl (by kernel_rfl) (by kernel_rfl) (by kernel_rfl) (fun _ _ _ h => h) (Or.inl ⟨by rfl, ?y17⟩) hS0 ?r17
 case y17 =>
   intro w_ hS_
   obtain ⟨_, h_⟩ := hS_
   have c_ : w_.cell? ⟨w.heap.size, 33, none⟩ = some (.int .u32 (m : Int)) := by rw [cell_of_row _ _ _ _ _ _ h_]; exact hrw_m pub hp prev m
   go_simp
   try with_reducible rfl
 simp only [Act.put, List.getElem_toArray, List.getElem_cons_succ, List.getElem_cons_zero, List.setIfInBounds_toArray, List.set_cons_succ, List.set_cons_zero]
 refine wpAnyH_take (i := 10) (v := .int .u64 (m : Int)) rfl (by kernel_rfl) (by kernel_rfl) (by kernel_rfl) (fun _ _ _ h => h) (Or.inl ⟨by rfl, ?y18⟩) hS0 ?r18
 case y18 =>
   intro w_ hS_
   go_simp
   try with_reducible rfl
 simp only [Act.put, List.getElem_toArray, List.getElem_cons_succ, List.getElem_cons_zero, List.setIfInBounds_toArray, List.set_cons_succ, List.set_cons_zero]
 refine wpAnyH_take (i := 11) (v := .agg #[.int .u64 (m : Int), .slice none 0 0, .slice none 0 0]) rfl (by kernel_rfl) (by kernel_rfl) (by kernel_rfl) (fun _ _ _ h => h) (Or.inl ⟨by rfl, ?y19⟩) hS0 ?r19
 case y19 =>
   intro w_ hS_
   go_simp
   try with_reducible rfl
 simp only [Act.put, List.getElem_toArray, List.getElem_cons_succ, List.getElem_cons_zero, List.setIfInBounds_toArray, List.set_cons_succ, List.set_cons_zero]
 refine wpAnyH_two (j := 0) (k := 12) (fuel := 8) (by kernel_rfl) rfl rfl (by kernel_rfl) (by kernel_rfl) (fun K_ hK => ?_) (fun K_ hK => ?_)
 · have cH := (a_headerCodec w1).mono (fun e w' h => (by obtain ⟨⟨q, h1, h2, h3⟩, h4⟩ := h; exact ⟨_, h1, q, rfl, h3, h4⟩ : ∃ v, e = .returned v ∧ ∃ q, v = .pointer (some ⟨q, 0, none⟩) ∧ Cdc w' q hdr ∧ Below w1.heap.size w1 w'))
   refine wp_call_ex (R := fun v w' => ∃ q, v = .pointer (some ⟨q, 0, none⟩) ∧ Cdc w' q hdr ∧ Below w1.heap.size w1 w') (by kernel_rfl) cH (fun v_ w2 hX_ => ?_)
   obtain ⟨q, rfl, hC, hbx⟩ := hX_
   replace hS0 : Bx w2 w.heap.size (hrw pub prev m) := hS0.keep hbx
   replace hb0 := Below.after hb0 hbx
   refine hK _ _ hS0 ?_
   simp only [Act.put, List.getElem_toArray, List.getElem_cons_zero, List.setIfInBounds_toArray, List.set_cons_succ, List.set_cons_zero]
   clear hK
   clear cH
   refine wpAnyH_one (k := 12) (fuel := 7) (by kernel_rfl) rfl (by kernel_rfl) (fun K_ hK => ?_)
   refine wp_val_op (.slice (some ⟨w2.heap.size, 0, none⟩) 3 3) (w' := w2.alloc (.cells (hps w.heap.size prev m) 80)) (by kernel_rfl) ?_
   have hba : Below w2.heap.size w2 (w2.alloc (.cells (hps w.heap.size prev m) 80)) := (Below.refl _ _).alloc (Nat.le_refl _) _
   have hPs : Bx (w2.alloc (.cells (hps w.heap.size prev m) 80)) w2.heap.size (hps w.heap.size prev m) := ⟨_, hp1_0 w2 _⟩
   replace hS0 : Bx (w2.alloc (.cells (hps w.heap.size prev m) 80)) w.heap.size (hrw pub prev m) := hS0.keep hba
   replace hb0 := Below.after hb0 hba
   replace hC := hC.keep hba
   refine hK _ _ hS0 ?_
   simp only [Act.put, List.getElem_toArray, List.getElem_cons_succ, List.getElem_cons_zero, List.setIfInBounds_toArray, List.set_cons_succ, List.set_cons_zero]
   clear hK
   clear hba
   generalize w2.alloc (.cells (hps w.heap.size prev m) 80) = w4 at *
   generalize w2.heap.size = gp at *
   refine wpAnyH_take (i := 13) (v := .agg #[.int .u64 0, .slice none 0 0, .slice (some ⟨gp, 0, none⟩) 3 3]) rfl (by kernel_rfl) (by kernel_rfl) (by kernel_rfl) (fun _ _ _ h => h) (Or.inl ⟨by rfl, ?y31⟩) hS0 ?r31
   case y31 =>
     intro w_ hS_
     go_simp
     try with_reducible rfl
   simp only [Act.put, List.getElem_toArray, List.getElem_cons_succ, List.getElem_cons_zero, List.setIfInBounds_toArray, List.set_cons_succ, List.set_cons_zero]
   refine wpAnyH_one (k := 14) (fuel := 5) (by kernel_rfl) rfl (by kernel_rfl) (fun K_ hK => ?_)
   have cE := a_EncodeF hdr_flat 0 (by decide) none 0 0 (.slice (some ⟨gp, 0, none⟩) 3 3) (hxs w.heap.size prev m) [pub, [], []] w4 hC (hdr_prt h1 h2 hPs) (fun _ => hdr_bys hp h1 h2 hS0)
   rw [hdr_ck _ _ _ h1 h2] at cE
   have cE2 := cE.mono (fun e w' h => (by obtain ⟨⟨u, e1, e2⟩, e3⟩ := h; exact ⟨_, e1, u, rfl, e2, e3⟩ : ∃ v, e = .returned v ∧ ∃ u, v = .tuple #[u, .nilIface] ∧ Own w' w4.heap.size u (eout (fdk hdr (hxs w.heap.size prev m) [pub, [], []] 3)) ∧ Below w4.heap.size w4 w'))
   refine wp_call_ex (R := fun v w' => ∃ u, v = .tuple #[u, .nilIface] ∧ Own w' w4.heap.size u (eout (fdk hdr (hxs w.heap.size prev m) [pub, [], []] 3)) ∧ Below w4.heap.size w4 w') (by kernel_rfl) cE2 (fun v_ w5 hX_ => ?_)
   obtain ⟨u, rfl, hU, hbx⟩ := hX_
   replace hS0 : Bx w5 w.heap.size (hrw pub prev m) := hS0.keep hbx
   have hU2 := own_down hU hb0.size
   replace hb0 := Below.after hb0 hbx
   clear cE cE2 hC hPs hU hbx
   obtain ⟨L, hL⟩ : ∃ L, eout (fdk hdr (hxs w.heap.size prev m) [pub, [], []] 3) = L := ⟨_, rfl⟩
   rw [hL] at hU2
   replace hL := hide hL
   obtain ⟨ua, uc, rfl⟩ := slen_own hU2
   refine hK _ _ hS0 ?_
   simp only [Act.put, List.getElem_toArray, List.getElem_cons_succ, List.getElem_cons_zero, List.setIfInBounds_toArray, List.set_cons_succ, List.set_cons_zero]
   clear hK
   refine wpAnyH_take (i := 15) (v := .tuple #[.slice ua L.length uc, .nilIface]) rfl (by kernel_rfl) (by kernel_rfl) (by kernel_rfl) (fun _ _ _ h => h) (Or.inl ⟨by rfl, ?y32⟩) hS0 ?r32
   case y32 =>
     intro w_ hS_
     go_simp
     try with_reducible rfl
   simp only [Act.put, List.getElem_toArray, List.getElem_cons_succ, List.getElem_cons_zero, List.setIfInBounds_toArray, List.set_cons_succ, List.set_cons_zero]
   refine wpAnyH_take (i := 16) (v := .slice ua L.length uc) rfl (by kernel_rfl) (by kernel_rfl) (by kernel_rfl) (fun _ _ _ h => h) (Or.inl ⟨by rfl, ?y33⟩) hS0 ?r33
   case y33 =>
     intro w_ hS_
     go_simp
     try with_reducible rfl
   simp only [Act.put, List.getElem_toArray, List.getElem_cons_succ, List.getElem_cons_zero, List.setIfInBounds_toArray, List.set_cons_succ, List.set_cons_zero]
   refine wpAnyH_take (i := 17) (v := .nilIface) rfl (by kernel_rfl) (by kernel_rfl) (by kernel_rfl) (fun _ _ _ h => h) (Or.inl ⟨by rfl, ?y34⟩) hS0 ?r34
   case y34 =>
     intro w_ hS_
     go_simp
     try with_reducible rfl
   simp only [Act.put, List.getElem_toArray, List.getElem_cons_succ, List.getElem_cons_zero, List.setIfInBounds_toArray, List.set_cons_succ, List.set_cons_zero]
   refine wpAnyH_take (i := 18) (v := .slice ua L.length uc) rfl (by kernel_rfl) (by kernel_rfl) (by kernel_rfl) (fun _ _ _ h => h) (Or.inl ⟨by rfl, ?y35⟩) hS0 ?r35
   case y35 =>
     intro w_ hS_
     go_simp
     try with_reducible rfl
   simp only [Act.put, List.getElem_toArray, List.getElem_cons_succ, List.getElem_cons_zero, List.setIfInBounds_toArray, List.set_cons_succ, List.set_cons_zero]
   refine wpAnyH_take (i := 19) (v := .nilIface) rfl (by kernel_rfl) (by kernel_rfl) (by kernel_rfl) (fun _ _ _ h => h) (Or.inl ⟨by rfl, ?y36⟩) hS0 ?r36
   case y36 =>
     intro w_ hS_
     go_simp
     try with_reducible rfl
   simp only [Act.put, List.getElem_toArray, List.getElem_cons_succ, List.getElem_cons_zero, List.setIfInBounds_toArray, List.set_cons_succ, List.set_cons_zero]
   refine wpAnyH_done (by kernel_rfl) ?_ _
   have A1 := hide hU2
   have A2 := hide hb0
   clear hU2 hb0 hS0
   go_wp2_with (fail)
   go_ret
   exact ⟨_, rfl, by rw [hL.out]; exact A1.out, A2.out⟩
 · refine wp_val_op (.slice (some ⟨w1.heap.size, 0, none⟩) 3 3) (w' := w1.alloc (.cells (hps w.heap.size prev m) 80)) (by kernel_rfl) ?_
   have hba : Below w1.heap.size w1 (w1.alloc (.cells (hps w.heap.size prev m) 80)) := (Below.refl _ _).alloc (Nat.le_refl _) _
   have hPs : Bx (w1.alloc (.cells (hps w.heap.size prev m) 80)) w1.heap.size (hps w.heap.size prev m) := ⟨_, hp1_0 w1 _⟩
   replace hS0 : Bx (w1.alloc (.cells (hps w.heap.size prev m) 80)) w.heap.size (hrw pub prev m) := hS0.keep hba
   replace hb0 := Below.after hb0 hba
   refine hK _ _ hS0 ?_
   simp only [Act.put, List.getElem_toArray, List.getElem_cons_succ, List.getElem_cons_zero, List.setIfInBounds_toArray, List.set_cons_succ, List.set_cons_zero]
   clear hK
   clear hba
   generalize w1.alloc (.cells (hps w.heap.size prev m) 80) = w3 at *
   generalize w1.heap.size = gp at *
   refine wpAnyH_take (i := 13) (v := .agg #[.int .u64 0, .slice none 0 0, .slice (some ⟨gp, 0, none⟩) 3 3]) rfl (by kernel_rfl) (by kernel_rfl) (by kernel_rfl) (fun _ _ _ h => h) (Or.inl ⟨by rfl, ?y37⟩) hS0 ?r37
   case y37 =>
     intro w_ hS_
     go_simp
     try with_reducible rfl
   simp only [Act.put, List.getElem_toArray, List.getElem_cons_succ, List.getElem_cons_zero, List.setIfInBounds_toArray, List.set_cons_succ, List.set_cons_zero]
   refine wpAnyH_one (k := 0) (fuel := 6) (by kernel_rfl) rfl (by kernel_rfl) (fun K_ hK => ?_)
   have cH := (a_headerCodec w3).mono (fun e w' h => (by obtain ⟨⟨q, h1, h2, h3⟩, h4⟩ := h; exact ⟨_, h1, q, rfl, h3, h4⟩ : ∃ v, e = .returned v ∧ ∃ q, v = .pointer (some ⟨q, 0, none⟩) ∧ Cdc w' q hdr ∧ Below w3.heap.size w3 w'))
   refine wp_call_ex (R := fun v w' => ∃ q, v = .pointer (some ⟨q, 0, none⟩) ∧ Cdc w' q hdr ∧ Below w3.heap.size w3 w') (by kernel_rfl) cH (fun v_ w4 hX_ => ?_)
   obtain ⟨q, rfl, hC, hbx⟩ := hX_
   replace hS0 : Bx w4 w.heap.size (hrw pub prev m) := hS0.keep hbx
   replace hb0 := Below.after hb0 hbx
   replace hPs := hPs.keep hbx
   refine hK _ _ hS0 ?_
   simp only [Act.put, List.getElem_toArray, List.getElem_cons_zero, List.setIfInBounds_toArray, List.set_cons_succ, List.set_cons_zero]
   clear hK
   clear cH hbx
   refine wpAnyH_one (k := 14) (fuel := 5) (by kernel_rfl) rfl (by kernel_rfl) (fun K_ hK => ?_)
   have cE := a_EncodeF hdr_flat 0 (by decide) none 0 0 (.slice (some ⟨gp, 0, none⟩) 3 3) (hxs w.heap.size prev m) [pub, [], []] w4 hC (hdr_prt h1 h2 hPs) (fun _ => hdr_bys hp h1 h2 hS0)
   rw [hdr_ck _ _ _ h1 h2] at cE
   have cE2 := cE.mono (fun e w' h => (by obtain ⟨⟨u, e1, e2⟩, e3⟩ := h; exact ⟨_, e1, u, rfl, e2, e3⟩ : ∃ v, e = .returned v ∧ ∃ u, v = .tuple #[u, .nilIface] ∧ Own w' w4.heap.size u (eout (fdk hdr (hxs w.heap.size prev m) [pub, [], []] 3)) ∧ Below w4.heap.size w4 w'))
   refine wp_call_ex (R := fun v w' => ∃ u, v = .tuple #[u, .nilIface] ∧ Own w' w4.heap.size u (eout (fdk hdr (hxs w.heap.size prev m) [pub, [], []] 3)) ∧ Below w4.heap.size w4 w') (by kernel_rfl) cE2 (fun v_ w5 hX_ => ?_)
   obtain ⟨u, rfl, hU, hbx⟩ := hX_
   replace hS0 : Bx w5 w.heap.size (hrw pub prev m) := hS0.keep hbx
   have hU2 := own_down hU hb0.size
   replace hb0 := Below.after hb0 hbx
   clear cE cE2 hC hPs hU hbx
   obtain ⟨L, hL⟩ : ∃ L, eout (fdk hdr (hxs w.heap.size prev m) [pub, [], []] 3) = L := ⟨_, rfl⟩
   rw [hL] at hU2
   replace hL := hide hL
   obtain ⟨ua, uc, rfl⟩ := slen_own hU2
   refine hK _ _ hS0 ?_
   simp only [Act.put, List.getElem_toArray, List.getElem_cons_succ, List.getElem_cons_zero, List.setIfInBounds_toArray, List.set_cons_succ, List.set_cons_zero]
   clear hK
   refine wpAnyH_take (i := 15) (v := .tuple #[.slice ua L.length uc, .nilIface]) rfl (by kernel_rfl) (by kernel_rfl) (by kernel_rfl) (fun _ _ _ h => h) (Or.inl ⟨by rfl, ?y38⟩) hS0 ?r38
   case y38 =>
     intro w_ hS_
     go_simp
     try with_reducible rfl
   simp only [Act.put, List.getElem_toArray, List.getElem_cons_succ, List.getElem_cons_zero, List.setIfInBounds_toArray, List.set_cons_succ, List.set_cons_zero]
   refine wpAnyH_take (i := 16) (v := .slice ua L.length uc) rfl (by kernel_rfl) (by kernel_rfl) (by kernel_rfl) (fun _ _ _ h => h) (Or.inl ⟨by rfl, ?y39⟩) hS0 ?r39
   case y39 =>
     intro w_ hS_
     go_simp
     try with_reducible rfl
   simp only [Act.put, List.getElem_toArray, List.getElem_cons_succ, List.getElem_cons_zero, List.setIfInBounds_toArray, List.set_cons_succ, List.set_cons_zero]
   refine wpAnyH_take (i := 17) (v := .nilIface) rfl (by kernel_rfl) (by kernel_rfl) (by kernel_rfl) (fun _ _ _ h => h) (Or.inl ⟨by rfl, ?y40⟩) hS0 ?r40
   case y40 =>
     intro w_ hS_
     go_simp
     try with_reducible rfl
   simp only [Act.put, List.getElem_toArray, List.getElem_cons_succ, List.getElem_cons_zero, List.setIfInBounds_toArray, List.set_cons_succ, List.set_cons_zero]
   refine wpAnyH_take (i := 18) (v := .slice ua L.length uc) rfl (by kernel_rfl) (by kernel_rfl) (by kernel_rfl) (fun _ _ _ h => h) (Or.inl ⟨by rfl, ?y41⟩) hS0 ?r41
   case y41 =>
     intro w_ hS_
     go_simp
     try with_reducible rfl
   simp only [Act.put, List.getElem_toArray, List.getElem_cons_succ, List.getElem_cons_zero, List.setIfInBounds_toArray, List.set_cons_succ, List.set_cons_zero]
   refine wpAnyH_take (i := 19) (v := .nilIface) rfl (by kernel_rfl) (by kernel_rfl) (by kernel_rfl) (fun _ _ _ h => h) (Or.inl ⟨by rfl, ?y42⟩) hS0 ?r42
   case y42 =>
     intro w_ hS_
     go_simp
     try with_reducible rfl
   simp only [Act.put, List.getElem_toArray, List.getElem_cons_succ, List.getElem_cons_zero, List.setIfInBounds_toArray, List.set_cons_succ, List.set_cons_zero]
   refine wpAnyH_done (by kernel_rfl) ?_ _
   have A1 := hide hU2
   have A2 := hide hb0
   clear hU2 hb0 hS0
   go_wp2_with (fail)
   go_ret
   exact ⟨_, rfl, by rw [hL.out]; exact A1.out, A2.out⟩
end Go.Proofs.YtleeadbceljfbaaGreatDoor
