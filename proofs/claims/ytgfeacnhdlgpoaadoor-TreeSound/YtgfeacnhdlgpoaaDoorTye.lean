import Derived.Test.YtgfeacnhdlgpoaaDoorProg
import Derived.WalkKit
import Derived.WalkSpells
import Derived.WalkLawsBesides
import Derived.Lib.QuietBelow
import Derived.BigQuiet
import Derived.OrdersHeld
import Derived.OwnWalk
import Derived.Deep.RegionHeld3
import Derived.Deep.Cut
import Derived.Deep.CutRange
import Derived.Test.YtgfeacnhdlgpoaaDoorTyd
import Derived.Test.YtgfeacnhdlgpoaaDoorTrv
namespace Go.Proofs.YtgfeacnhdlgpoaaDoor
set_option maxRecDepth 100000
open Go Go.RowKit Go.Sort
attribute [local go_sem] setCell_drewN alloc_drewN
theorem wpList_append_T {w : World} {ops : Array Oper} {rest : List Oper} {o : Oper} {a : Act} {Q : Exit → Act → World → Prop} (hgd : o.guard = none) (s x : Operand) (ho : o.op = .call { callee := .builtin .append, args := #[s, x], argTypes := #[66, 66] })
    (base : Nat) (v : Value) (ts : List (List Int)) (hs : a.eval s = v) (hT : OwnT w base v ts) (u : Value) (ms : List (List Int)) (hx : a.eval x = u) (hM : OwnT w base u ms) (hlen : ts.length + ms.length ≤ 1000000) (hbase : base ≤ w.heap.size)
    (h : ∀ v' w', OwnT w' base v' (ts ++ ms) → w.grownBy w' v.ownBlock → wpList Tryd.prog ops Q rest (a.put o.dst v') w') : wpList Tryd.prog ops Q (o :: rest) a w :=
  wpList_plain hgd fun _ hK => wp_append_T s x ho base v ts hs hT u ms hx hM hlen hbase (fun v' w' h1 h2 => hK _ _ (h v' w' h1 h2))
theorem blk_ltT {w : World} {g j : Nat} {v : Value} (h : w.cell? ⟨g, j, none⟩ = some v) : g < w.heap.size := by
  rcases Nat.lt_or_ge g w.heap.size with q | q
  · exact q
  · simp [World.cell?, Array.getElem?_eq_none q] at h
theorem keepb {w W : World} {g j : Nat} {v : Value} (h : w.cell? ⟨g, j, none⟩ = some v) (he : W.heap[g]? = w.heap[g]?) : W.cell? ⟨g, j, none⟩ = some v := by
  unfold World.cell? at h ⊢
  rw [he]; exact h
theorem keepc2 {w W : World} {g j : Nat} {v : Value} (h : w.cell? ⟨g, j, none⟩ = some v) (he : W.heap[g]? = w.heap[g]?) : W.cell? ⟨g, j, none⟩ = some v := keepb h he
set_option maxRecDepth 100000 in
set_option maxHeartbeats 8000000 in
theorem sound_big (l P Q : List (List Int)) {R LF OD pr cr : List Int} (pn ai mi cn_ : Int) (hR : R.length = 32) (hLF : LF.length = 32) (hOD : OD.length = 32) (hpr : pr.length = 32) (hcr : cr.length = 32) (w : World) (vo po qo : Option Addr) (vc pc qc : Nat) (hL : Ksl w (.slice vo l.length vc) l) (_hP : Ksl w (.slice po P.length pc) P) (_hQ : Ksl w (.slice qo Q.length qc) Q) (hlL : l.length ≤ 4398046510990) (_hlP : P.length ≤ 4398046510990) (_hlQ : Q.length ≤ 4398046510990) (cRr : ∀ W, Below w.heap.size w W → Calls Tryd.prog 19 #[.slice vo l.length vc] W fun e w' => e = .returned (.agg (irow .u8 R)) ∧ Below W.heap.size W w') (cRa : ∀ W, Below w.heap.size w W → ∀ {u : Value}, Ksl W u l → Calls Tryd.prog 18 #[u] W fun e w' => e = .returned (.agg (irow .u8 R)) ∧ Below W.heap.size W w') (hbig : 65536 < l.length) : Calls Tryd.prog 9 #[.slice vo l.length vc, .agg (plrow pr LF pn ai (.slice po P.length pc)), .agg (plrow OD cr mi cn_ (.slice qo Q.length qc))] w fun e w' => e = .returned (.bool true) ∧ Below w.heap.size w w' := by
  have eRR := eqKs R hR
  have db : decide ((l.length : Int) > 65536) = true := by simp; omega
  have dbn : decide (65536 < l.length) = true := by simp; omega
  have rp0 := hp2_0 w (.cells (plrow pr LF pn ai (.slice po P.length pc)) 52) (.cells (plrow OD cr mi cn_ (.slice qo Q.length qc)) 56)
  have rp1 := hp2_1 w (.cells (plrow pr LF pn ai (.slice po P.length pc)) 52) (.cells (plrow OD cr mi cn_ (.slice qo Q.length qc)) 56)
  have hw : Below w.heap.size w ((w.alloc (.cells (plrow pr LF pn ai (.slice po P.length pc)) 52)).alloc (.cells (plrow OD cr mi cn_ (.slice qo Q.length qc)) 56)) := (((Below.refl _ _).alloc (Nat.le_refl _) _).alloc (by simp) _)
  go_enter Tryd.func9, Tryd.ntmps9
  iterate 9 go_step
  generalize ((w.alloc (.cells (plrow pr LF pn ai (.slice po P.length pc)) 52)).alloc (.cells (plrow OD cr mi cn_ (.slice qo Q.length qc)) 56)) = w0 at *
  go_wp2_with (fail)
  have k0 := cell_of rp0 ((pl_at pr LF pn ai (.slice po P.length pc) hpr hLF 1).trans rfl)
  have k1 := cell_of rp0 ((pl_at pr LF pn ai (.slice po P.length pc) hpr hLF 2).trans rfl)
  have k2 := cell_of rp1 ((pl_at OD cr mi cn_ (.slice qo Q.length qc) hOD hcr 0).trans rfl)
  have k3 := cell_of rp1 ((pl_at OD cr mi cn_ (.slice qo Q.length qc) hOD hcr 2).trans rfl)
  go_cut [8, 9, 10, 11, 12] from 20 to 147 (fun u8 u9 u10 u11 u12 wx => ∃ ga gb, u8 = .int .i64 ai ∧ u9 = .int .i64 mi ∧ u10 = .pointer (some ⟨ga, 0, none⟩) ∧ u11 = .pointer (some ⟨gb, 0, none⟩) ∧ u12 = .slice po P.length pc ∧ w.heap.size + 1 < ga ∧ w.heap.size + 1 < gb ∧ ga ≠ gb ∧ wx.heap[w.heap.size]? = some (.cells (plrow pr LF pn ai (.slice po P.length pc)) 52 (0, 0)) ∧ wx.heap[w.heap.size + 1]? = some (.cells (plrow OD cr mi cn_ (.slice qo Q.length qc)) 56 (0, 0)) ∧ wx.heap[ga]? = some (.cells (irow .u8 LF) 24 (0, 0)) ∧ wx.heap[gb]? = some (.cells (irow .u8 OD) 24 (0, 0)) ∧ Below w.heap.size w wx)
  case first =>
    have hb : Below w0.heap.size w0 w0.drew := below_drN (Below.refl _ _) 1
    replace rp0 := keep hb rp0
    replace rp1 := keep hb rp1
    replace k0 := keepc hb k0
    replace k1 := keepc hb k1
    replace k2 := keepc hb k2
    replace k3 := keepc hb k3
    replace hw := Below.after hw hb
    clear hb
    refine wp_region_noPanic ?_
    refine wp_region_held (S := fun W_ => W_.heap[w.heap.size]? = some (.cells (plrow pr LF pn ai (.slice po P.length pc)) 52 (0, 0)) ∧ W_.heap[w.heap.size + 1]? = some (.cells (plrow OD cr mi cn_ (.slice qo Q.length qc)) 56 (0, 0)) ∧ W_.cell? ⟨w.heap.size, 65, none⟩ = some (.int .i64 ai) ∧ W_.cell? ⟨w.heap.size, 66, none⟩ = some (.slice po P.length pc) ∧ W_.cell? ⟨w.heap.size + 1, 64, none⟩ = some (.int .i64 mi) ∧ W_.cell? ⟨w.heap.size + 1, 66, none⟩ = some (.slice qo Q.length qc)) (by kernel_rfl) ?_
    change wpAnyH _ _ _ _ _ _ _ _ (World.drew _)
    generalize w0.drew = wd237 at *
    refine wpAnyH_take (i := 0) (v := ?v238) rfl (by kernel_rfl) (by kernel_rfl) (by kernel_rfl) (fun _ _ _ h => h) (Or.inl ⟨by rfl, ?y238⟩) (⟨rp0, rp1, k0, k1, k2, k3⟩) ?r238
    case y238 =>
      intro w_ hS_
      go_simp
      try with_reducible rfl
    simp only [Act.put, List.getElem_toArray, List.getElem_cons_zero, List.setIfInBounds_toArray, List.set_cons_succ, List.set_cons_zero]
    refine wpAnyH_take (i := 1) (v := .int .i64 ai) rfl (by kernel_rfl) (by kernel_rfl) (by kernel_rfl) (fun _ _ _ h => h) (Or.inl ⟨by rfl, ?y239⟩) (⟨rp0, rp1, k0, k1, k2, k3⟩) ?r239
    case y239 =>
      intro w_ hS_
      obtain ⟨z0, z1, z2, z3, z4, z5⟩ := hS_
      go_simp
      try with_reducible rfl
    simp only [Act.put, List.getElem_toArray, List.getElem_cons_succ, List.getElem_cons_zero, List.setIfInBounds_toArray, List.set_cons_succ, List.set_cons_zero]
    refine wpAnyH_take (i := 2) (v := ?v240) rfl (by kernel_rfl) (by kernel_rfl) (by kernel_rfl) (fun _ _ _ h => h) (Or.inl ⟨by rfl, ?y240⟩) (⟨rp0, rp1, k0, k1, k2, k3⟩) ?r240
    case y240 =>
      intro w_ hS_
      go_simp
      try with_reducible rfl
    simp only [Act.put, List.getElem_toArray, List.getElem_cons_succ, List.getElem_cons_zero, List.setIfInBounds_toArray, List.set_cons_succ, List.set_cons_zero]
    refine wpAnyH_take (i := 3) (v := .int .i64 mi) rfl (by kernel_rfl) (by kernel_rfl) (by kernel_rfl) (fun _ _ _ h => h) (Or.inl ⟨by rfl, ?y241⟩) (⟨rp0, rp1, k0, k1, k2, k3⟩) ?r241
    case y241 =>
      intro w_ hS_
      obtain ⟨z0, z1, z2, z3, z4, z5⟩ := hS_
      go_simp
      try with_reducible rfl
    simp only [Act.put, List.getElem_toArray, List.getElem_cons_succ, List.getElem_cons_zero, List.setIfInBounds_toArray, List.set_cons_succ, List.set_cons_zero]
    refine wpAnyH_take (i := 4) (v := ?v242) rfl (by kernel_rfl) (by kernel_rfl) (by kernel_rfl) (fun _ _ _ h => h) (Or.inl ⟨by rfl, ?y242⟩) (⟨rp0, rp1, k0, k1, k2, k3⟩) ?r242
    case y242 =>
      intro w_ hS_
      go_simp
      try with_reducible rfl
    simp only [Act.put, List.getElem_toArray, List.getElem_cons_succ, List.getElem_cons_zero, List.setIfInBounds_toArray, List.set_cons_succ, List.set_cons_zero]
    refine wpAnyH_take (i := 5) (v := .agg (irow .u8 LF)) rfl (by kernel_rfl) (by kernel_rfl) (by kernel_rfl) (fun _ _ _ h => h) (Or.inl ⟨by rfl, ?y243⟩) (⟨rp0, rp1, k0, k1, k2, k3⟩) ?r243
    case y243 =>
      intro w_ hS_
      simp only [List.getElem_toArray, List.getElem_cons_succ, List.getElem_cons_zero]
      exact e_load_part 24 _ (by rfl) (w.heap.size) 32 (by rfl) 52 (plrow pr LF pn ai (.slice po P.length pc)) (0, 0) (irow .u8 LF) _ (hS_.1) (pl_b _ _ _ _ _ hpr hLF) Tryd.underlying24 rfl (infok8 _ hLF)
    simp only [Act.put, List.getElem_toArray, List.getElem_cons_succ, List.getElem_cons_zero, List.setIfInBounds_toArray, List.set_cons_succ, List.set_cons_zero]
    refine wpAnyH_take (i := 6) (v := ?v244) rfl (by kernel_rfl) (by kernel_rfl) (by kernel_rfl) (fun _ _ _ h => h) (Or.inl ⟨by rfl, ?y244⟩) (⟨rp0, rp1, k0, k1, k2, k3⟩) ?r244
    case y244 =>
      intro w_ hS_
      go_simp
      try with_reducible rfl
    simp only [Act.put, List.getElem_toArray, List.getElem_cons_succ, List.getElem_cons_zero, List.setIfInBounds_toArray, List.set_cons_succ, List.set_cons_zero]
    refine wpAnyH_take (i := 7) (v := .agg (irow .u8 OD)) rfl (by kernel_rfl) (by kernel_rfl) (by kernel_rfl) (fun _ _ _ h => h) (Or.inl ⟨by rfl, ?y245⟩) (⟨rp0, rp1, k0, k1, k2, k3⟩) ?r245
    case y245 =>
      intro w_ hS_
      simp only [List.getElem_toArray, List.getElem_cons_succ, List.getElem_cons_zero]
      exact e_load_part 24 _ (by rfl) (w.heap.size + 1) 0 (by rfl) 56 (plrow OD cr mi cn_ (.slice qo Q.length qc)) (0, 0) (irow .u8 OD) _ (hS_.2.1) (pl_a _ _ _ _ _ hOD) Tryd.underlying24 rfl (infok8 _ hOD)
    simp only [Act.put, List.getElem_toArray, List.getElem_cons_succ, List.getElem_cons_zero, List.setIfInBounds_toArray, List.set_cons_succ, List.set_cons_zero]
    refine wpAnyH_take (i := 8) (v := ?v246) rfl (by kernel_rfl) (by kernel_rfl) (by kernel_rfl) (fun _ _ _ h => h) (Or.inl ⟨by rfl, ?y246⟩) (⟨rp0, rp1, k0, k1, k2, k3⟩) ?r246
    case y246 =>
      intro w_ hS_
      go_simp
      try with_reducible rfl
    simp only [Act.put, List.getElem_toArray, List.getElem_cons_succ, List.getElem_cons_zero, List.setIfInBounds_toArray, List.set_cons_succ, List.set_cons_zero]
    refine wpAnyH_take (i := 9) (v := .slice po P.length pc) rfl (by kernel_rfl) (by kernel_rfl) (by kernel_rfl) (fun _ _ _ h => h) (Or.inl ⟨by rfl, ?y247⟩) (⟨rp0, rp1, k0, k1, k2, k3⟩) ?r247
    case y247 =>
      intro w_ hS_
      obtain ⟨z0, z1, z2, z3, z4, z5⟩ := hS_
      go_simp
      try with_reducible rfl
    simp only [Act.put, List.getElem_toArray, List.getElem_cons_succ, List.getElem_cons_zero, List.setIfInBounds_toArray, List.set_cons_succ, List.set_cons_zero]
    refine eH_two (j := 10) (k := 11) (fuel := 6) (by kernel_rfl) rfl rfl (by kernel_rfl) (by kernel_rfl) (fun K_ hK_ => ?_) (fun K_ hK_ => ?_)
    · skip
      refine e_world_op (.pointer (some ⟨wd237.heap.size, 0, none⟩)) (wd237.alloc (.cells (irow .u8 (zr 32)) 24)) (by kernel_rfl) ?_
      have hb : Below wd237.heap.size wd237 (wd237.alloc (.cells (irow .u8 (zr 32)) 24)) := (Below.refl _ _).alloc (Nat.le_refl _) _
      have rg248 := hp1_0 wd237 (.cells (irow .u8 (zr 32)) 24)
      have lt_g248_0 := lt_of_row rp0
      have lt_g248_1 := lt_of_row rp1
      have sz_g248 := hw.size
      replace rp0 := keep hb rp0
      replace rp1 := keep hb rp1
      replace k0 := keepc hb k0
      replace k1 := keepc hb k1
      replace k2 := keepc hb k2
      replace k3 := keepc hb k3
      replace hw := Below.after hw hb
      clear hb
      refine hK_ _ _ (⟨rp0, rp1, k0, k1, k2, k3⟩) ?_
      simp only [Act.put, List.getElem_toArray, List.getElem_cons_succ, List.getElem_cons_zero, List.setIfInBounds_toArray, List.set_cons_succ, List.set_cons_zero]
      clear hK_
      generalize (wd237.alloc (.cells (irow .u8 (zr 32)) 24)) = wq248 at *
      generalize wd237.heap.size = g248 at *
      refine eH_one (k := 11) (fuel := 5) (by kernel_rfl) rfl (by kernel_rfl) (fun K_ hK_ => ?_)
      refine e_world_op (.pointer (some ⟨wq248.heap.size, 0, none⟩)) (wq248.alloc (.cells (irow .u8 (zr 32)) 24)) (by kernel_rfl) ?_
      have hb : Below wq248.heap.size wq248 (wq248.alloc (.cells (irow .u8 (zr 32)) 24)) := (Below.refl _ _).alloc (Nat.le_refl _) _
      have rg249 := hp1_0 wq248 (.cells (irow .u8 (zr 32)) 24)
      have lt_g249_0 := lt_of_row rp0
      have lt_g249_1 := lt_of_row rp1
      have lt_g249_2 := lt_of_row rg248
      have sz_g249 := hw.size
      replace rp0 := keep hb rp0
      replace rp1 := keep hb rp1
      replace rg248 := keep hb rg248
      replace k0 := keepc hb k0
      replace k1 := keepc hb k1
      replace k2 := keepc hb k2
      replace k3 := keepc hb k3
      replace hw := Below.after hw hb
      clear hb
      refine hK_ _ _ (⟨rp0, rp1, k0, k1, k2, k3⟩) ?_
      simp only [Act.put, List.getElem_toArray, List.getElem_cons_succ, List.getElem_cons_zero, List.setIfInBounds_toArray, List.set_cons_succ, List.set_cons_zero]
      clear hK_
      generalize (wq248.alloc (.cells (irow .u8 (zr 32)) 24)) = wq249 at *
      generalize wq248.heap.size = g249 at *
      refine wpAnyH_take (i := 12) (v := ?v250) rfl (by kernel_rfl) (by kernel_rfl) (by kernel_rfl) (fun _ _ _ h => h) (Or.inl ⟨by rfl, ?y250⟩) (⟨rp0, rp1, k0, k1, k2, k3⟩) ?r250
      case y250 =>
        intro w_ hS_
        go_simp
        try with_reducible rfl
      simp only [Act.put, List.getElem_toArray, List.getElem_cons_succ, List.getElem_cons_zero, List.setIfInBounds_toArray, List.set_cons_succ, List.set_cons_zero]
      refine wpAnyH_take (i := 13) (v := ?v251) rfl (by kernel_rfl) (by kernel_rfl) (by kernel_rfl) (fun _ _ _ h => h) (Or.inl ⟨by rfl, ?y251⟩) (⟨rp0, rp1, k0, k1, k2, k3⟩) ?r251
      case y251 =>
        intro w_ hS_
        go_simp
        try with_reducible rfl
      simp only [Act.put, List.getElem_toArray, List.getElem_cons_succ, List.getElem_cons_zero, List.setIfInBounds_toArray, List.set_cons_succ, List.set_cons_zero]
      refine eH_one (k := 14) (fuel := 2) (by kernel_rfl) rfl (by kernel_rfl) (fun K_ hK_ => ?_)
      refine wp_store_row 24 _ _ rfl (g248) (irow .u8 LF) rfl rfl 24 _ rg248 (infok8 _ hLF) (((irow_size _ _).trans (zr_len 32)).trans ((irow_size _ _).trans hLF).symm) (irow_one8 _) ?_
      have hN_ := setRow_heap wq249 (g248) _ (irow .u8 LF) _ _ rg248
      replace rp0 := (setRow_other wq249 (g248) (w.heap.size) (irow .u8 LF) (by omega)).trans rp0
      replace rp1 := (setRow_other wq249 (g248) (w.heap.size + 1) (irow .u8 LF) (by omega)).trans rp1
      replace rg249 := (setRow_other wq249 (g248) (g249) (irow .u8 LF) (by omega)).trans rg249
      replace hw := below_setRow hw (show w.heap.size ≤ g248 by omega) (irow .u8 LF)
      replace k0 := keepc2 k0 (setRow_other wq249 (g248) _ (irow .u8 LF) (by omega))
      replace k1 := keepc2 k1 (setRow_other wq249 (g248) _ (irow .u8 LF) (by omega))
      replace k2 := keepc2 k2 (setRow_other wq249 (g248) _ (irow .u8 LF) (by omega))
      replace k3 := keepc2 k3 (setRow_other wq249 (g248) _ (irow .u8 LF) (by omega))
      generalize (wq249.setRow (g248) (irow .u8 LF)) = wq252 at *
      clear rg248
      have rg248 := hN_
      clear hN_
      refine hK_ _ _ (⟨rp0, rp1, k0, k1, k2, k3⟩) ?_
      simp only [Act.put]
      clear hK_
      refine eH_one (k := 15) (fuel := 1) (by kernel_rfl) rfl (by kernel_rfl) (fun K_ hK_ => ?_)
      refine wp_store_row 24 _ _ rfl (g249) (irow .u8 OD) rfl rfl 24 _ rg249 (infok8 _ hOD) (((irow_size _ _).trans (zr_len 32)).trans ((irow_size _ _).trans hOD).symm) (irow_one8 _) ?_
      have hN_ := setRow_heap wq252 (g249) _ (irow .u8 OD) _ _ rg249
      replace rp0 := (setRow_other wq252 (g249) (w.heap.size) (irow .u8 OD) (by omega)).trans rp0
      replace rp1 := (setRow_other wq252 (g249) (w.heap.size + 1) (irow .u8 OD) (by omega)).trans rp1
      replace rg248 := (setRow_other wq252 (g249) (g248) (irow .u8 OD) (by omega)).trans rg248
      replace hw := below_setRow hw (show w.heap.size ≤ g249 by omega) (irow .u8 OD)
      replace k0 := keepc2 k0 (setRow_other wq252 (g249) _ (irow .u8 OD) (by omega))
      replace k1 := keepc2 k1 (setRow_other wq252 (g249) _ (irow .u8 OD) (by omega))
      replace k2 := keepc2 k2 (setRow_other wq252 (g249) _ (irow .u8 OD) (by omega))
      replace k3 := keepc2 k3 (setRow_other wq252 (g249) _ (irow .u8 OD) (by omega))
      generalize (wq252.setRow (g249) (irow .u8 OD)) = wq253 at *
      clear rg249
      have rg249 := hN_
      clear hN_
      refine hK_ _ _ (⟨rp0, rp1, k0, k1, k2, k3⟩) ?_
      simp only [Act.put]
      clear hK_
      refine wpAnyH_take (i := 16) (v := ?v254) rfl (by kernel_rfl) (by kernel_rfl) (by kernel_rfl) (fun _ _ _ h => h) (Or.inl ⟨by rfl, ?y254⟩) (⟨rp0, rp1, k0, k1, k2, k3⟩) ?r254
      case y254 =>
        intro w_ hS_
        go_simp
        try with_reducible rfl
      simp only [Act.put, List.getElem_toArray, List.getElem_cons_succ, List.getElem_cons_zero, List.setIfInBounds_toArray, List.set_cons_succ, List.set_cons_zero]
      refine wpAnyH_done (by kernel_rfl) ?_ _
      refine NoPanic.normal ?_
      go_wp2_with (fail)
      go_meet
      case rel => exact ⟨g248, g249, rfl, rfl, rfl, rfl, rfl, by omega, by omega, by omega, rp0, rp1, rg248, rg249, hw⟩
    · skip
      refine e_world_op (.pointer (some ⟨wd237.heap.size, 0, none⟩)) (wd237.alloc (.cells (irow .u8 (zr 32)) 24)) (by kernel_rfl) ?_
      have hb : Below wd237.heap.size wd237 (wd237.alloc (.cells (irow .u8 (zr 32)) 24)) := (Below.refl _ _).alloc (Nat.le_refl _) _
      have rg255 := hp1_0 wd237 (.cells (irow .u8 (zr 32)) 24)
      have lt_g255_0 := lt_of_row rp0
      have lt_g255_1 := lt_of_row rp1
      have sz_g255 := hw.size
      replace rp0 := keep hb rp0
      replace rp1 := keep hb rp1
      replace k0 := keepc hb k0
      replace k1 := keepc hb k1
      replace k2 := keepc hb k2
      replace k3 := keepc hb k3
      replace hw := Below.after hw hb
      clear hb
      refine hK_ _ _ (⟨rp0, rp1, k0, k1, k2, k3⟩) ?_
      simp only [Act.put, List.getElem_toArray, List.getElem_cons_succ, List.getElem_cons_zero, List.setIfInBounds_toArray, List.set_cons_succ, List.set_cons_zero]
      clear hK_
      generalize (wd237.alloc (.cells (irow .u8 (zr 32)) 24)) = wq255 at *
      generalize wd237.heap.size = g255 at *
      refine eH_one (k := 10) (fuel := 5) (by kernel_rfl) rfl (by kernel_rfl) (fun K_ hK_ => ?_)
      refine e_world_op (.pointer (some ⟨wq255.heap.size, 0, none⟩)) (wq255.alloc (.cells (irow .u8 (zr 32)) 24)) (by kernel_rfl) ?_
      have hb : Below wq255.heap.size wq255 (wq255.alloc (.cells (irow .u8 (zr 32)) 24)) := (Below.refl _ _).alloc (Nat.le_refl _) _
      have rg256 := hp1_0 wq255 (.cells (irow .u8 (zr 32)) 24)
      have lt_g256_0 := lt_of_row rp0
      have lt_g256_1 := lt_of_row rp1
      have lt_g256_2 := lt_of_row rg255
      have sz_g256 := hw.size
      replace rp0 := keep hb rp0
      replace rp1 := keep hb rp1
      replace rg255 := keep hb rg255
      replace k0 := keepc hb k0
      replace k1 := keepc hb k1
      replace k2 := keepc hb k2
      replace k3 := keepc hb k3
      replace hw := Below.after hw hb
      clear hb
      refine hK_ _ _ (⟨rp0, rp1, k0, k1, k2, k3⟩) ?_
      simp only [Act.put, List.getElem_toArray, List.getElem_cons_succ, List.getElem_cons_zero, List.setIfInBounds_toArray, List.set_cons_succ, List.set_cons_zero]
      clear hK_
      generalize (wq255.alloc (.cells (irow .u8 (zr 32)) 24)) = wq256 at *
      generalize wq255.heap.size = g256 at *
      refine wpAnyH_take (i := 12) (v := ?v257) rfl (by kernel_rfl) (by kernel_rfl) (by kernel_rfl) (fun _ _ _ h => h) (Or.inl ⟨by rfl, ?y257⟩) (⟨rp0, rp1, k0, k1, k2, k3⟩) ?r257
      case y257 =>
        intro w_ hS_
        go_simp
        try with_reducible rfl
      simp only [Act.put, List.getElem_toArray, List.getElem_cons_succ, List.getElem_cons_zero, List.setIfInBounds_toArray, List.set_cons_succ, List.set_cons_zero]
      refine wpAnyH_take (i := 13) (v := ?v258) rfl (by kernel_rfl) (by kernel_rfl) (by kernel_rfl) (fun _ _ _ h => h) (Or.inl ⟨by rfl, ?y258⟩) (⟨rp0, rp1, k0, k1, k2, k3⟩) ?r258
      case y258 =>
        intro w_ hS_
        go_simp
        try with_reducible rfl
      simp only [Act.put, List.getElem_toArray, List.getElem_cons_succ, List.getElem_cons_zero, List.setIfInBounds_toArray, List.set_cons_succ, List.set_cons_zero]
      refine eH_one (k := 14) (fuel := 2) (by kernel_rfl) rfl (by kernel_rfl) (fun K_ hK_ => ?_)
      refine wp_store_row 24 _ _ rfl (g256) (irow .u8 LF) rfl rfl 24 _ rg256 (infok8 _ hLF) (((irow_size _ _).trans (zr_len 32)).trans ((irow_size _ _).trans hLF).symm) (irow_one8 _) ?_
      have hN_ := setRow_heap wq256 (g256) _ (irow .u8 LF) _ _ rg256
      replace rp0 := (setRow_other wq256 (g256) (w.heap.size) (irow .u8 LF) (by omega)).trans rp0
      replace rp1 := (setRow_other wq256 (g256) (w.heap.size + 1) (irow .u8 LF) (by omega)).trans rp1
      replace rg255 := (setRow_other wq256 (g256) (g255) (irow .u8 LF) (by omega)).trans rg255
      replace hw := below_setRow hw (show w.heap.size ≤ g256 by omega) (irow .u8 LF)
      replace k0 := keepc2 k0 (setRow_other wq256 (g256) _ (irow .u8 LF) (by omega))
      replace k1 := keepc2 k1 (setRow_other wq256 (g256) _ (irow .u8 LF) (by omega))
      replace k2 := keepc2 k2 (setRow_other wq256 (g256) _ (irow .u8 LF) (by omega))
      replace k3 := keepc2 k3 (setRow_other wq256 (g256) _ (irow .u8 LF) (by omega))
      generalize (wq256.setRow (g256) (irow .u8 LF)) = wq259 at *
      clear rg256
      have rg256 := hN_
      clear hN_
      refine hK_ _ _ (⟨rp0, rp1, k0, k1, k2, k3⟩) ?_
      simp only [Act.put]
      clear hK_
      refine eH_one (k := 15) (fuel := 1) (by kernel_rfl) rfl (by kernel_rfl) (fun K_ hK_ => ?_)
      refine wp_store_row 24 _ _ rfl (g255) (irow .u8 OD) rfl rfl 24 _ rg255 (infok8 _ hOD) (((irow_size _ _).trans (zr_len 32)).trans ((irow_size _ _).trans hOD).symm) (irow_one8 _) ?_
      have hN_ := setRow_heap wq259 (g255) _ (irow .u8 OD) _ _ rg255
      replace rp0 := (setRow_other wq259 (g255) (w.heap.size) (irow .u8 OD) (by omega)).trans rp0
      replace rp1 := (setRow_other wq259 (g255) (w.heap.size + 1) (irow .u8 OD) (by omega)).trans rp1
      replace rg256 := (setRow_other wq259 (g255) (g256) (irow .u8 OD) (by omega)).trans rg256
      replace hw := below_setRow hw (show w.heap.size ≤ g255 by omega) (irow .u8 OD)
      replace k0 := keepc2 k0 (setRow_other wq259 (g255) _ (irow .u8 OD) (by omega))
      replace k1 := keepc2 k1 (setRow_other wq259 (g255) _ (irow .u8 OD) (by omega))
      replace k2 := keepc2 k2 (setRow_other wq259 (g255) _ (irow .u8 OD) (by omega))
      replace k3 := keepc2 k3 (setRow_other wq259 (g255) _ (irow .u8 OD) (by omega))
      generalize (wq259.setRow (g255) (irow .u8 OD)) = wq260 at *
      clear rg255
      have rg255 := hN_
      clear hN_
      refine hK_ _ _ (⟨rp0, rp1, k0, k1, k2, k3⟩) ?_
      simp only [Act.put]
      clear hK_
      refine wpAnyH_take (i := 16) (v := ?v261) rfl (by kernel_rfl) (by kernel_rfl) (by kernel_rfl) (fun _ _ _ h => h) (Or.inl ⟨by rfl, ?y261⟩) (⟨rp0, rp1, k0, k1, k2, k3⟩) ?r261
      case y261 =>
        intro w_ hS_
        go_simp
        try with_reducible rfl
      simp only [Act.put, List.getElem_toArray, List.getElem_cons_succ, List.getElem_cons_zero, List.setIfInBounds_toArray, List.set_cons_succ, List.set_cons_zero]
      refine wpAnyH_done (by kernel_rfl) ?_ _
      refine NoPanic.normal ?_
      go_wp2_with (fail)
      go_meet
      case rel => exact ⟨g256, g255, rfl, rfl, rfl, rfl, rfl, by omega, by omega, by omega, rp0, rp1, rg256, rg255, hw⟩
  case rest =>
    clear k0 k1 k2 k3
    obtain ⟨ga, gb, rfl, rfl, rfl, rfl, rfl, lga, lgb, gne, rp0, rp1, rla, rlb, hw⟩ := hcut
    go_wp2_with (fail)
    refine (cRr _ hw).mono ?_
    rintro e_ w3 ⟨rfl, hb⟩
    replace rp0 := keep hb rp0
    replace rp1 := keep hb rp1
    replace rla := keep hb rla
    replace rlb := keep hb rlb
    replace hw := Below.after hw hb
    clear hb
    go_wp2_with (first | (refine wpList_store_row rfl 24 _ _ rfl (w3.heap.size) (irow .u8 R) rfl rfl 24 (irow .u8 (zr 32)) (hp1_0 w3 _) (infok8 _ hR) (((irow_size _ _).trans (zr_len 32)).trans ((irow_size _ _).trans hR).symm) (irow_one8 _) ?_; rw [setRow_alloc_new _ _ _ _ _ _ (by simp)]; refine wpList_stay ?_) | fail)
    unfold WpStay
    try simp only [Act.put]
    have rl13 : (w3.alloc (.cells (irow .u8 R) 24)).heap[w3.heap.size]? = some (.cells (irow .u8 R) 24 (0, 0)) := hp1_0 w3 _
    have hb : Below w3.heap.size w3 (w3.alloc (.cells (irow .u8 R) 24)) := ((Below.refl _ _).alloc (Nat.le_refl _) _)
    generalize (w3.alloc (.cells (irow .u8 R) 24)) = w4 at *
    have lt_gr_0 := lt_of_row rp0
    have lt_gr_1 := lt_of_row rp1
    have lt_gr_2 := lt_of_row rla
    have lt_gr_3 := lt_of_row rlb
    have sz_gr := hw.size
    replace rp0 := keep hb rp0
    replace rp1 := keep hb rp1
    replace rla := keep hb rla
    replace rlb := keep hb rlb
    replace hw := Below.after hw hb
    clear hb
    generalize w3.heap.size = gr at *
    clear w3
    go_wp2_with (fail)
    have hb : Below w4.heap.size w4 w4.drew := below_drN (Below.refl _ _) 1
    replace rp0 := keep hb rp0
    replace rp1 := keep hb rp1
    replace rla := keep hb rla
    replace rlb := keep hb rlb
    replace rl13 := keep hb rl13
    replace hw := Below.after hw hb
    clear hb
    refine wp_region_noPanic ?_
    refine wp_region_held (S := fun W_ => W_.heap[gr]? = some (.cells (irow .u8 R) 24 (0, 0))) (by kernel_rfl) ?_
    change wpAnyH _ _ _ _ _ _ _ _ (World.drew _)
    generalize w4.drew = wd262 at *
    refine wpAnyH_take (i := 1) (v := ?v263) rfl (by kernel_rfl) (by kernel_rfl) (by kernel_rfl) (fun _ _ _ h => h) (Or.inl ⟨by rfl, ?y263⟩) (rl13) ?r263
    case y263 =>
      intro w_ hS_
      go_simp
      try with_reducible rfl
    simp only [Act.put, List.getElem_toArray, List.getElem_cons_succ, List.getElem_cons_zero, List.setIfInBounds_toArray, List.set_cons_succ, List.set_cons_zero]
    refine wpAnyH_take (i := 4) (v := .agg (irow .u8 R)) rfl (by kernel_rfl) (by kernel_rfl) (by kernel_rfl) (fun _ _ _ h => h) (Or.inl ⟨by rfl, ?y264⟩) (rl13) ?r264
    case y264 =>
      intro w_ hS_
      simp only [List.getElem_toArray, List.getElem_cons_succ, List.getElem_cons_zero]
      exact e_load_part 24 _ (by rfl) (gr) 0 (by rfl) 24 (irow .u8 R) (0, 0) (irow .u8 R) _ (hS_) (all_rowe _) Tryd.underlying24 rfl (infok8 _ hR)
    simp only [Act.put, List.getElem_toArray, List.getElem_cons_succ, List.getElem_cons_zero, List.setIfInBounds_toArray, List.set_cons_succ, List.set_cons_zero]
    refine eH_one (k := 0) (fuel := 7) (by kernel_rfl) rfl (by kernel_rfl) (fun K_ hK_ => ?_)
    refine e_world_op (.slice (some ⟨wd262.heap.size, 0, none⟩) 0 0) (wd262.alloc (.cells #[] 24)) (by kernel_rfl) ?_
    have hO := OwnK.empty wd262 (Nat.le_refl wd262.heap.size)
    have hb : Below wd262.heap.size wd262 (wd262.alloc (.cells #[] 24)) := (Below.refl _ _).alloc (Nat.le_refl _) _
    have lt_gk265_0 := lt_of_row rp0
    have lt_gk265_1 := lt_of_row rp1
    have lt_gk265_2 := lt_of_row rla
    have lt_gk265_3 := lt_of_row rlb
    have lt_gk265_4 := lt_of_row rl13
    have sz_gk265 := hw.size
    replace rp0 := keep hb rp0
    replace rp1 := keep hb rp1
    replace rla := keep hb rla
    replace rlb := keep hb rlb
    replace rl13 := keep hb rl13
    replace hw := Below.after hw hb
    clear hb
    have hsgk265 : wd262.heap.size ≤ (wd262.alloc (.cells #[] 24)).heap.size := by simp
    refine hK_ _ _ (rl13) ?_
    simp only [Act.put, List.getElem_toArray, List.getElem_cons_zero, List.setIfInBounds_toArray, List.set_cons_succ, List.set_cons_zero]
    clear hK_
    generalize (wd262.alloc (.cells #[] 24)) = wq265 at *
    generalize wd262.heap.size = gk265 at *
    refine eH_one (k := 2) (fuel := 6) (by kernel_rfl) rfl (by kernel_rfl) (fun K_ hK_ => ?_)
    refine wp_append_Ks _ _ rfl gk265 _ [] rfl hO _ l rfl (hL.keep hw) (by simp only [List.length_nil]; omega) hsgk265 (fun va_ wa266 hA_ hG_ _ => ?_)
    replace rp0 := (hG_.block _ (lt_of_row rp0) (by intro e; have e' : (w.heap.size) = gk265 := Option.some.inj e; omega)).trans rp0
    replace rp1 := (hG_.block _ (lt_of_row rp1) (by intro e; have e' : (w.heap.size + 1) = gk265 := Option.some.inj e; omega)).trans rp1
    replace rla := (hG_.block _ (lt_of_row rla) (by intro e; have e' : (ga) = gk265 := Option.some.inj e; omega)).trans rla
    replace rlb := (hG_.block _ (lt_of_row rlb) (by intro e; have e' : (gb) = gk265 := Option.some.inj e; omega)).trans rlb
    replace rl13 := (hG_.block _ (lt_of_row rl13) (by intro e; have e' : (gr) = gk265 := Option.some.inj e; omega)).trans rl13
    replace hw := hw.grown hG_ hw.size (fun k e => by have e' : gk265 = k := Option.some.inj e; omega)
    replace hA_ : OwnK wa266 gk265 va_ l := hA_
    have hCp := hA_.ksl hL.ok (by omega)
    clear hO hA_ hG_ hsgk265
    refine hK_ _ _ (rl13) ?_
    simp only [Act.put, List.getElem_toArray, List.getElem_cons_succ, List.getElem_cons_zero, List.setIfInBounds_toArray, List.set_cons_succ, List.set_cons_zero]
    clear hK_
    refine eH_one (k := 3) (fuel := 5) (by kernel_rfl) rfl (by kernel_rfl) (fun K_ hK_ => ?_)
    refine wp_call_ex (f := 18) (by kernel_rfl) (ex1e (cRa _ hw hCp)) (fun v_ wq267 hX_ => ?_)
    obtain ⟨rfl, hb⟩ := hX_
    replace rp0 := keep hb rp0
    replace rp1 := keep hb rp1
    replace rla := keep hb rla
    replace rlb := keep hb rlb
    replace rl13 := keep hb rl13
    replace hw := Below.after hw hb
    clear hb
    refine hK_ _ _ (rl13) ?_
    simp only [Act.put, List.getElem_toArray, List.getElem_cons_succ, List.getElem_cons_zero, List.setIfInBounds_toArray, List.set_cons_succ, List.set_cons_zero]
    clear hK_
    refine wpAnyH_take (i := 5) (v := ?v268) rfl (by kernel_rfl) (by kernel_rfl) (by kernel_rfl) (fun _ _ _ h => h) (Or.inl ⟨by rfl, ?y268⟩) (rl13) ?r268
    case y268 =>
      intro w_ hS_
      go_simp
      try with_reducible rfl
    simp only [Act.put, List.getElem_toArray, List.getElem_cons_succ, List.getElem_cons_zero, List.setIfInBounds_toArray, List.set_cons_succ, List.set_cons_zero]
    refine wpAnyH_take (i := 6) (v := ?v269) rfl (by kernel_rfl) (by kernel_rfl) (by kernel_rfl) (fun _ _ _ h => h) (Or.inl ⟨by rfl, ?y269⟩) (rl13) ?r269
    case y269 =>
      intro w_ hS_
      go_simp
      try with_reducible rfl
    simp only [Act.put, List.getElem_toArray, List.getElem_cons_succ, List.getElem_cons_zero, List.setIfInBounds_toArray, List.set_cons_succ, List.set_cons_zero]
    refine wpAnyH_take (i := 7) (v := ?v270) rfl (by kernel_rfl) (by kernel_rfl) (by kernel_rfl) (fun _ _ _ h => h) (Or.inl ⟨by rfl, ?y270⟩) (rl13) ?r270
    case y270 =>
      intro w_ hS_
      go_simp
      try with_reducible rfl
    simp only [Act.put, List.getElem_toArray, List.getElem_cons_succ, List.getElem_cons_zero, List.setIfInBounds_toArray, List.set_cons_succ, List.set_cons_zero]
    refine wpAnyH_take (i := 8) (v := ?v271) rfl (by kernel_rfl) (by kernel_rfl) (by kernel_rfl) (fun _ _ _ h => h) (Or.inl ⟨by rfl, ?y271⟩) (rl13) ?r271
    case y271 =>
      intro w_ hS_
      go_simp
      try with_reducible rfl
    simp only [Act.put, List.getElem_toArray, List.getElem_cons_succ, List.getElem_cons_zero, List.setIfInBounds_toArray, List.set_cons_succ, List.set_cons_zero]
    refine wpAnyH_take (i := 9) (v := ?v272) rfl (by kernel_rfl) (by kernel_rfl) (by kernel_rfl) (fun _ _ _ h => h) (Or.inl ⟨by rfl, ?y272⟩) (rl13) ?r272
    case y272 =>
      intro w_ hS_
      go_simp
      try with_reducible rfl
    simp only [Act.put, List.getElem_toArray, List.getElem_cons_succ, List.getElem_cons_zero, List.setIfInBounds_toArray, List.set_cons_succ, List.set_cons_zero]
    refine wpAnyH_done (by kernel_rfl) ?_ _
    refine NoPanic.normal ?_
    clear hCp
    go_wp2_with (fail)
    go_ret
    exact ⟨rfl, hw⟩
set_option maxRecDepth 100000 in
set_option maxHeartbeats 8000000 in
theorem sound_walk (l P Q : List (List Int)) {R LF OD pr cr : List Int} (pn ai mi cn_ : Int) (hR : R.length = 32) (hLF : LF.length = 32) (hOD : OD.length = 32) (hpr : pr.length = 32) (hcr : cr.length = 32) (w : World) (vo po qo : Option Addr) (vc pc qc : Nat) (hL : Ksl w (.slice vo l.length vc) l) (hP : Ksl w (.slice po P.length pc) P) (hQ : Ksl w (.slice qo Q.length qc) Q) (hlL : l.length ≤ 4398046510990) (hlP : P.length ≤ 4398046510990) (hlQ : Q.length ≤ 4398046510990) (cRr : ∀ W, Below w.heap.size w W → Calls Tryd.prog 19 #[.slice vo l.length vc] W fun e w' => e = .returned (.agg (irow .u8 R)) ∧ Below W.heap.size W w') (cRa : ∀ W, Below w.heap.size w W → ∀ {u : Value}, Ksl W u l → Calls Tryd.prog 18 #[u] W fun e w' => e = .returned (.agg (irow .u8 R)) ∧ Below W.heap.size W w') (hle : l.length ≤ 65536) (hz : vo = none → vc = 0) (_hvc : l.length ≤ vc) {E1 E2 : Int} {e1 e2 eqf eqo : Bool} {A A2 B2 RM : List Int} {T1 TX S2 T2 P0 : List (List Int)} (I M : Nat) (hA : A.length = 32) (hA2 : A2.length = 32) (hB2 : B2.length = 32) (hT1l : T1.length ≤ 70000) (hTXl : TX.length ≤ 70000) (hS2l : S2.length ≤ 70000) (hT2l : T2.length ≤ 70000) (hP0o : Kok P0) (hP0l : P0.length ≤ 100) (hE1 : (E1 == 0) = e1) (hE2 : (E2 == 0) = e2) (h1 : e1 = true → ai = (I : Int) ∧ I < l.length) (h2 : e2 = true → mi = (M : Int) ∧ M ≤ l.length) (cI1 : ∀ W, Below w.heap.size w W → ∀ {u : Value}, Ksl W u P → Calls Tryd.prog 29 #[.agg (irow .u8 R), .int .i64 (l.length : Int), .int .i64 ai, .agg (irow .u8 LF), u] W fun e w' => e = .returned (.int .i64 E1) ∧ Below W.heap.size W w') (hq1 : e1 = true → ∀ W, (Op.equalIn 10000 24 (.agg (irow .u8 LF)) (.agg (irow .u8 (l.getD I [])))).run Tryd.prog W = .ok eqf W) (cMd : e1 = true → eqf = false → ∀ W, Below w.heap.size w W → Calls Tryd.prog 36 #[.int .i64 (l.length : Int), .int .i64 (I : Int), .agg (irow .u8 LF), .slice po P.length pc] W fun e w' => ∃ v, e = .returned v ∧ ∃ vt, v = .tuple #[.agg (irow .u8 A), vt] ∧ OwnT w' W.heap.size vt T1 ∧ Below W.heap.size W w') (cTx : ∀ W, Below w.heap.size w W → Calls Tryd.prog 38 #[.slice vo l.length vc] W fun e w' => ∃ v, e = .returned v ∧ OwnT w' W.heap.size v TX ∧ Below W.heap.size W w') (cCl1 : e1 = true → eqf = false → ∀ W, Below w.heap.size w W → ∀ {u : Value} {b : Nat}, OwnT W b u (T1 ++ TX) → Calls Tryd.prog 37 #[u] W fun e w' => e = .returned (.bool true) ∧ Below W.heap.size W w') (cG : ∀ W, Below w.heap.size w W → ∀ {u : Value}, Ksl W u Q → Calls Tryd.prog 31 #[.agg (irow .u8 OD), .int .i64 mi, .agg (irow .u8 R), .int .i64 (l.length : Int), u] W fun e w' => e = .returned (.int .i64 E2) ∧ Below W.heap.size W w') (cRm : e2 = true → ∀ W, Below w.heap.size w W → Calls Tryd.prog 19 #[.slice vo M vc] W fun e w' => e = .returned (.agg (irow .u8 RM)) ∧ Below W.heap.size W w') (hq2 : e2 = true → ∀ W, (Op.equalIn 10000 24 (.agg (irow .u8 OD)) (.agg (irow .u8 RM))).run Tryd.prog W = .ok eqo W) (h3 : e2 = true → eqo = false → M ≠ 0 ∧ M ≠ l.length) (cBo : e2 = true → eqo = false → ∀ W, Below w.heap.size w W → Calls Tryd.prog 39 #[.agg (irow .u8 OD), .int .i64 (M : Int), .int .i64 (l.length : Int), .bool true, .slice qo Q.length qc] W fun e w' => ∃ v, e = .returned v ∧ ∃ vs vt, v = .tuple #[.agg (irow .u8 A2), .agg (irow .u8 B2), vs, vt] ∧ OwnT w' W.heap.size vs S2 ∧ OwnT w' W.heap.size vt T2 ∧ Dj vs vt ∧ Below W.heap.size W w') (cCl2 : e2 = true → eqo = false → ∀ W, Below w.heap.size w W → ∀ {u : Value} {b : Nat}, OwnT W b u (S2 ++ T2 ++ TX) → Calls Tryd.prog 37 #[u] W fun e w' => e = .returned (.bool true) ∧ Below W.heap.size W w') (cPa : 0 < l.length → ∀ W, Below w.heap.size w W → Calls Tryd.prog 40 #[.slice vo l.length vc, .int .i64 0] W fun e w' => ∃ v, e = .returned v ∧ OwnK w' W.heap.size v P0 ∧ Below W.heap.size W w') (cI2 : 0 < l.length → ∀ W, Below w.heap.size w W → ∀ {u : Value}, Ksl W u P0 → Calls Tryd.prog 29 #[.agg (irow .u8 R), .int .i64 (l.length : Int), .int .i64 0, .agg (irow .u8 (l.getD 0 [])), u] W fun e w' => e = .returned (.int .i64 0) ∧ Below W.heap.size W w') : Calls Tryd.prog 9 #[.slice vo l.length vc, .agg (plrow pr LF pn ai (.slice po P.length pc)), .agg (plrow OD cr mi cn_ (.slice qo Q.length qc))] w fun e w' => e = .returned (.bool true) ∧ Below w.heap.size w w' := by
  have eRR := eqKs R hR
  have db : decide ((l.length : Int) > 65536) = false := by simp; omega
  have dbn : decide (65536 < l.length) = false := by simp; omega
  have rp0 := hp2_0 w (.cells (plrow pr LF pn ai (.slice po P.length pc)) 52) (.cells (plrow OD cr mi cn_ (.slice qo Q.length qc)) 56)
  have rp1 := hp2_1 w (.cells (plrow pr LF pn ai (.slice po P.length pc)) 52) (.cells (plrow OD cr mi cn_ (.slice qo Q.length qc)) 56)
  have hw : Below w.heap.size w ((w.alloc (.cells (plrow pr LF pn ai (.slice po P.length pc)) 52)).alloc (.cells (plrow OD cr mi cn_ (.slice qo Q.length qc)) 56)) := (((Below.refl _ _).alloc (Nat.le_refl _) _).alloc (by simp) _)
  go_enter Tryd.func9, Tryd.ntmps9
  iterate 9 go_step
  generalize ((w.alloc (.cells (plrow pr LF pn ai (.slice po P.length pc)) 52)).alloc (.cells (plrow OD cr mi cn_ (.slice qo Q.length qc)) 56)) = w0 at *
  go_wp2_with (fail)
  have k0 := cell_of rp0 ((pl_at pr LF pn ai (.slice po P.length pc) hpr hLF 1).trans rfl)
  have k1 := cell_of rp0 ((pl_at pr LF pn ai (.slice po P.length pc) hpr hLF 2).trans rfl)
  have k2 := cell_of rp1 ((pl_at OD cr mi cn_ (.slice qo Q.length qc) hOD hcr 0).trans rfl)
  have k3 := cell_of rp1 ((pl_at OD cr mi cn_ (.slice qo Q.length qc) hOD hcr 2).trans rfl)
  go_cut [8, 9, 10, 11, 12] from 20 to 147 (fun u8 u9 u10 u11 u12 wx => ∃ ga gb, u8 = .int .i64 ai ∧ u9 = .int .i64 mi ∧ u10 = .pointer (some ⟨ga, 0, none⟩) ∧ u11 = .pointer (some ⟨gb, 0, none⟩) ∧ u12 = .slice po P.length pc ∧ w.heap.size + 1 < ga ∧ w.heap.size + 1 < gb ∧ ga ≠ gb ∧ wx.heap[w.heap.size]? = some (.cells (plrow pr LF pn ai (.slice po P.length pc)) 52 (0, 0)) ∧ wx.heap[w.heap.size + 1]? = some (.cells (plrow OD cr mi cn_ (.slice qo Q.length qc)) 56 (0, 0)) ∧ wx.heap[ga]? = some (.cells (irow .u8 LF) 24 (0, 0)) ∧ wx.heap[gb]? = some (.cells (irow .u8 OD) 24 (0, 0)) ∧ Below w.heap.size w wx)
  case first =>
    have hb : Below w0.heap.size w0 w0.drew := below_drN (Below.refl _ _) 1
    replace rp0 := keep hb rp0
    replace rp1 := keep hb rp1
    replace k0 := keepc hb k0
    replace k1 := keepc hb k1
    replace k2 := keepc hb k2
    replace k3 := keepc hb k3
    replace hw := Below.after hw hb
    clear hb
    refine wp_region_noPanic ?_
    refine wp_region_held (S := fun W_ => W_.heap[w.heap.size]? = some (.cells (plrow pr LF pn ai (.slice po P.length pc)) 52 (0, 0)) ∧ W_.heap[w.heap.size + 1]? = some (.cells (plrow OD cr mi cn_ (.slice qo Q.length qc)) 56 (0, 0)) ∧ W_.cell? ⟨w.heap.size, 65, none⟩ = some (.int .i64 ai) ∧ W_.cell? ⟨w.heap.size, 66, none⟩ = some (.slice po P.length pc) ∧ W_.cell? ⟨w.heap.size + 1, 64, none⟩ = some (.int .i64 mi) ∧ W_.cell? ⟨w.heap.size + 1, 66, none⟩ = some (.slice qo Q.length qc)) (by kernel_rfl) ?_
    change wpAnyH _ _ _ _ _ _ _ _ (World.drew _)
    generalize w0.drew = wd237 at *
    refine wpAnyH_take (i := 0) (v := ?v238) rfl (by kernel_rfl) (by kernel_rfl) (by kernel_rfl) (fun _ _ _ h => h) (Or.inl ⟨by rfl, ?y238⟩) (⟨rp0, rp1, k0, k1, k2, k3⟩) ?r238
    case y238 =>
      intro w_ hS_
      go_simp
      try with_reducible rfl
    simp only [Act.put, List.getElem_toArray, List.getElem_cons_zero, List.setIfInBounds_toArray, List.set_cons_succ, List.set_cons_zero]
    refine wpAnyH_take (i := 1) (v := .int .i64 ai) rfl (by kernel_rfl) (by kernel_rfl) (by kernel_rfl) (fun _ _ _ h => h) (Or.inl ⟨by rfl, ?y239⟩) (⟨rp0, rp1, k0, k1, k2, k3⟩) ?r239
    case y239 =>
      intro w_ hS_
      obtain ⟨z0, z1, z2, z3, z4, z5⟩ := hS_
      go_simp
      try with_reducible rfl
    simp only [Act.put, List.getElem_toArray, List.getElem_cons_succ, List.getElem_cons_zero, List.setIfInBounds_toArray, List.set_cons_succ, List.set_cons_zero]
    refine wpAnyH_take (i := 2) (v := ?v240) rfl (by kernel_rfl) (by kernel_rfl) (by kernel_rfl) (fun _ _ _ h => h) (Or.inl ⟨by rfl, ?y240⟩) (⟨rp0, rp1, k0, k1, k2, k3⟩) ?r240
    case y240 =>
      intro w_ hS_
      go_simp
      try with_reducible rfl
    simp only [Act.put, List.getElem_toArray, List.getElem_cons_succ, List.getElem_cons_zero, List.setIfInBounds_toArray, List.set_cons_succ, List.set_cons_zero]
    refine wpAnyH_take (i := 3) (v := .int .i64 mi) rfl (by kernel_rfl) (by kernel_rfl) (by kernel_rfl) (fun _ _ _ h => h) (Or.inl ⟨by rfl, ?y241⟩) (⟨rp0, rp1, k0, k1, k2, k3⟩) ?r241
    case y241 =>
      intro w_ hS_
      obtain ⟨z0, z1, z2, z3, z4, z5⟩ := hS_
      go_simp
      try with_reducible rfl
    simp only [Act.put, List.getElem_toArray, List.getElem_cons_succ, List.getElem_cons_zero, List.setIfInBounds_toArray, List.set_cons_succ, List.set_cons_zero]
    refine wpAnyH_take (i := 4) (v := ?v242) rfl (by kernel_rfl) (by kernel_rfl) (by kernel_rfl) (fun _ _ _ h => h) (Or.inl ⟨by rfl, ?y242⟩) (⟨rp0, rp1, k0, k1, k2, k3⟩) ?r242
    case y242 =>
      intro w_ hS_
      go_simp
      try with_reducible rfl
    simp only [Act.put, List.getElem_toArray, List.getElem_cons_succ, List.getElem_cons_zero, List.setIfInBounds_toArray, List.set_cons_succ, List.set_cons_zero]
    refine wpAnyH_take (i := 5) (v := .agg (irow .u8 LF)) rfl (by kernel_rfl) (by kernel_rfl) (by kernel_rfl) (fun _ _ _ h => h) (Or.inl ⟨by rfl, ?y243⟩) (⟨rp0, rp1, k0, k1, k2, k3⟩) ?r243
    case y243 =>
      intro w_ hS_
      simp only [List.getElem_toArray, List.getElem_cons_succ, List.getElem_cons_zero]
      exact e_load_part 24 _ (by rfl) (w.heap.size) 32 (by rfl) 52 (plrow pr LF pn ai (.slice po P.length pc)) (0, 0) (irow .u8 LF) _ (hS_.1) (pl_b _ _ _ _ _ hpr hLF) Tryd.underlying24 rfl (infok8 _ hLF)
    simp only [Act.put, List.getElem_toArray, List.getElem_cons_succ, List.getElem_cons_zero, List.setIfInBounds_toArray, List.set_cons_succ, List.set_cons_zero]
    refine wpAnyH_take (i := 6) (v := ?v244) rfl (by kernel_rfl) (by kernel_rfl) (by kernel_rfl) (fun _ _ _ h => h) (Or.inl ⟨by rfl, ?y244⟩) (⟨rp0, rp1, k0, k1, k2, k3⟩) ?r244
    case y244 =>
      intro w_ hS_
      go_simp
      try with_reducible rfl
    simp only [Act.put, List.getElem_toArray, List.getElem_cons_succ, List.getElem_cons_zero, List.setIfInBounds_toArray, List.set_cons_succ, List.set_cons_zero]
    refine wpAnyH_take (i := 7) (v := .agg (irow .u8 OD)) rfl (by kernel_rfl) (by kernel_rfl) (by kernel_rfl) (fun _ _ _ h => h) (Or.inl ⟨by rfl, ?y245⟩) (⟨rp0, rp1, k0, k1, k2, k3⟩) ?r245
    case y245 =>
      intro w_ hS_
      simp only [List.getElem_toArray, List.getElem_cons_succ, List.getElem_cons_zero]
      exact e_load_part 24 _ (by rfl) (w.heap.size + 1) 0 (by rfl) 56 (plrow OD cr mi cn_ (.slice qo Q.length qc)) (0, 0) (irow .u8 OD) _ (hS_.2.1) (pl_a _ _ _ _ _ hOD) Tryd.underlying24 rfl (infok8 _ hOD)
    simp only [Act.put, List.getElem_toArray, List.getElem_cons_succ, List.getElem_cons_zero, List.setIfInBounds_toArray, List.set_cons_succ, List.set_cons_zero]
    refine wpAnyH_take (i := 8) (v := ?v246) rfl (by kernel_rfl) (by kernel_rfl) (by kernel_rfl) (fun _ _ _ h => h) (Or.inl ⟨by rfl, ?y246⟩) (⟨rp0, rp1, k0, k1, k2, k3⟩) ?r246
    case y246 =>
      intro w_ hS_
      go_simp
      try with_reducible rfl
    simp only [Act.put, List.getElem_toArray, List.getElem_cons_succ, List.getElem_cons_zero, List.setIfInBounds_toArray, List.set_cons_succ, List.set_cons_zero]
    refine wpAnyH_take (i := 9) (v := .slice po P.length pc) rfl (by kernel_rfl) (by kernel_rfl) (by kernel_rfl) (fun _ _ _ h => h) (Or.inl ⟨by rfl, ?y247⟩) (⟨rp0, rp1, k0, k1, k2, k3⟩) ?r247
    case y247 =>
      intro w_ hS_
      obtain ⟨z0, z1, z2, z3, z4, z5⟩ := hS_
      go_simp
      try with_reducible rfl
    simp only [Act.put, List.getElem_toArray, List.getElem_cons_succ, List.getElem_cons_zero, List.setIfInBounds_toArray, List.set_cons_succ, List.set_cons_zero]
    refine eH_two (j := 10) (k := 11) (fuel := 6) (by kernel_rfl) rfl rfl (by kernel_rfl) (by kernel_rfl) (fun K_ hK_ => ?_) (fun K_ hK_ => ?_)
    · skip
      refine e_world_op (.pointer (some ⟨wd237.heap.size, 0, none⟩)) (wd237.alloc (.cells (irow .u8 (zr 32)) 24)) (by kernel_rfl) ?_
      have hb : Below wd237.heap.size wd237 (wd237.alloc (.cells (irow .u8 (zr 32)) 24)) := (Below.refl _ _).alloc (Nat.le_refl _) _
      have rg248 := hp1_0 wd237 (.cells (irow .u8 (zr 32)) 24)
      have lt_g248_0 := lt_of_row rp0
      have lt_g248_1 := lt_of_row rp1
      have sz_g248 := hw.size
      replace rp0 := keep hb rp0
      replace rp1 := keep hb rp1
      replace k0 := keepc hb k0
      replace k1 := keepc hb k1
      replace k2 := keepc hb k2
      replace k3 := keepc hb k3
      replace hw := Below.after hw hb
      clear hb
      refine hK_ _ _ (⟨rp0, rp1, k0, k1, k2, k3⟩) ?_
      simp only [Act.put, List.getElem_toArray, List.getElem_cons_succ, List.getElem_cons_zero, List.setIfInBounds_toArray, List.set_cons_succ, List.set_cons_zero]
      clear hK_
      generalize (wd237.alloc (.cells (irow .u8 (zr 32)) 24)) = wq248 at *
      generalize wd237.heap.size = g248 at *
      refine eH_one (k := 11) (fuel := 5) (by kernel_rfl) rfl (by kernel_rfl) (fun K_ hK_ => ?_)
      refine e_world_op (.pointer (some ⟨wq248.heap.size, 0, none⟩)) (wq248.alloc (.cells (irow .u8 (zr 32)) 24)) (by kernel_rfl) ?_
      have hb : Below wq248.heap.size wq248 (wq248.alloc (.cells (irow .u8 (zr 32)) 24)) := (Below.refl _ _).alloc (Nat.le_refl _) _
      have rg249 := hp1_0 wq248 (.cells (irow .u8 (zr 32)) 24)
      have lt_g249_0 := lt_of_row rp0
      have lt_g249_1 := lt_of_row rp1
      have lt_g249_2 := lt_of_row rg248
      have sz_g249 := hw.size
      replace rp0 := keep hb rp0
      replace rp1 := keep hb rp1
      replace rg248 := keep hb rg248
      replace k0 := keepc hb k0
      replace k1 := keepc hb k1
      replace k2 := keepc hb k2
      replace k3 := keepc hb k3
      replace hw := Below.after hw hb
      clear hb
      refine hK_ _ _ (⟨rp0, rp1, k0, k1, k2, k3⟩) ?_
      simp only [Act.put, List.getElem_toArray, List.getElem_cons_succ, List.getElem_cons_zero, List.setIfInBounds_toArray, List.set_cons_succ, List.set_cons_zero]
      clear hK_
      generalize (wq248.alloc (.cells (irow .u8 (zr 32)) 24)) = wq249 at *
      generalize wq248.heap.size = g249 at *
      refine wpAnyH_take (i := 12) (v := ?v250) rfl (by kernel_rfl) (by kernel_rfl) (by kernel_rfl) (fun _ _ _ h => h) (Or.inl ⟨by rfl, ?y250⟩) (⟨rp0, rp1, k0, k1, k2, k3⟩) ?r250
      case y250 =>
        intro w_ hS_
        go_simp
        try with_reducible rfl
      simp only [Act.put, List.getElem_toArray, List.getElem_cons_succ, List.getElem_cons_zero, List.setIfInBounds_toArray, List.set_cons_succ, List.set_cons_zero]
      refine wpAnyH_take (i := 13) (v := ?v251) rfl (by kernel_rfl) (by kernel_rfl) (by kernel_rfl) (fun _ _ _ h => h) (Or.inl ⟨by rfl, ?y251⟩) (⟨rp0, rp1, k0, k1, k2, k3⟩) ?r251
      case y251 =>
        intro w_ hS_
        go_simp
        try with_reducible rfl
      simp only [Act.put, List.getElem_toArray, List.getElem_cons_succ, List.getElem_cons_zero, List.setIfInBounds_toArray, List.set_cons_succ, List.set_cons_zero]
      refine eH_one (k := 14) (fuel := 2) (by kernel_rfl) rfl (by kernel_rfl) (fun K_ hK_ => ?_)
      refine wp_store_row 24 _ _ rfl (g248) (irow .u8 LF) rfl rfl 24 _ rg248 (infok8 _ hLF) (((irow_size _ _).trans (zr_len 32)).trans ((irow_size _ _).trans hLF).symm) (irow_one8 _) ?_
      have hN_ := setRow_heap wq249 (g248) _ (irow .u8 LF) _ _ rg248
      replace rp0 := (setRow_other wq249 (g248) (w.heap.size) (irow .u8 LF) (by omega)).trans rp0
      replace rp1 := (setRow_other wq249 (g248) (w.heap.size + 1) (irow .u8 LF) (by omega)).trans rp1
      replace rg249 := (setRow_other wq249 (g248) (g249) (irow .u8 LF) (by omega)).trans rg249
      replace hw := below_setRow hw (show w.heap.size ≤ g248 by omega) (irow .u8 LF)
      replace k0 := keepc2 k0 (setRow_other wq249 (g248) _ (irow .u8 LF) (by omega))
      replace k1 := keepc2 k1 (setRow_other wq249 (g248) _ (irow .u8 LF) (by omega))
      replace k2 := keepc2 k2 (setRow_other wq249 (g248) _ (irow .u8 LF) (by omega))
      replace k3 := keepc2 k3 (setRow_other wq249 (g248) _ (irow .u8 LF) (by omega))
      generalize (wq249.setRow (g248) (irow .u8 LF)) = wq252 at *
      clear rg248
      have rg248 := hN_
      clear hN_
      refine hK_ _ _ (⟨rp0, rp1, k0, k1, k2, k3⟩) ?_
      simp only [Act.put]
      clear hK_
      refine eH_one (k := 15) (fuel := 1) (by kernel_rfl) rfl (by kernel_rfl) (fun K_ hK_ => ?_)
      refine wp_store_row 24 _ _ rfl (g249) (irow .u8 OD) rfl rfl 24 _ rg249 (infok8 _ hOD) (((irow_size _ _).trans (zr_len 32)).trans ((irow_size _ _).trans hOD).symm) (irow_one8 _) ?_
      have hN_ := setRow_heap wq252 (g249) _ (irow .u8 OD) _ _ rg249
      replace rp0 := (setRow_other wq252 (g249) (w.heap.size) (irow .u8 OD) (by omega)).trans rp0
      replace rp1 := (setRow_other wq252 (g249) (w.heap.size + 1) (irow .u8 OD) (by omega)).trans rp1
      replace rg248 := (setRow_other wq252 (g249) (g248) (irow .u8 OD) (by omega)).trans rg248
      replace hw := below_setRow hw (show w.heap.size ≤ g249 by omega) (irow .u8 OD)
      replace k0 := keepc2 k0 (setRow_other wq252 (g249) _ (irow .u8 OD) (by omega))
      replace k1 := keepc2 k1 (setRow_other wq252 (g249) _ (irow .u8 OD) (by omega))
      replace k2 := keepc2 k2 (setRow_other wq252 (g249) _ (irow .u8 OD) (by omega))
      replace k3 := keepc2 k3 (setRow_other wq252 (g249) _ (irow .u8 OD) (by omega))
      generalize (wq252.setRow (g249) (irow .u8 OD)) = wq253 at *
      clear rg249
      have rg249 := hN_
      clear hN_
      refine hK_ _ _ (⟨rp0, rp1, k0, k1, k2, k3⟩) ?_
      simp only [Act.put]
      clear hK_
      refine wpAnyH_take (i := 16) (v := ?v254) rfl (by kernel_rfl) (by kernel_rfl) (by kernel_rfl) (fun _ _ _ h => h) (Or.inl ⟨by rfl, ?y254⟩) (⟨rp0, rp1, k0, k1, k2, k3⟩) ?r254
      case y254 =>
        intro w_ hS_
        go_simp
        try with_reducible rfl
      simp only [Act.put, List.getElem_toArray, List.getElem_cons_succ, List.getElem_cons_zero, List.setIfInBounds_toArray, List.set_cons_succ, List.set_cons_zero]
      refine wpAnyH_done (by kernel_rfl) ?_ _
      refine NoPanic.normal ?_
      go_wp2_with (fail)
      go_meet
      case rel => exact ⟨g248, g249, rfl, rfl, rfl, rfl, rfl, by omega, by omega, by omega, rp0, rp1, rg248, rg249, hw⟩
    · skip
      refine e_world_op (.pointer (some ⟨wd237.heap.size, 0, none⟩)) (wd237.alloc (.cells (irow .u8 (zr 32)) 24)) (by kernel_rfl) ?_
      have hb : Below wd237.heap.size wd237 (wd237.alloc (.cells (irow .u8 (zr 32)) 24)) := (Below.refl _ _).alloc (Nat.le_refl _) _
      have rg255 := hp1_0 wd237 (.cells (irow .u8 (zr 32)) 24)
      have lt_g255_0 := lt_of_row rp0
      have lt_g255_1 := lt_of_row rp1
      have sz_g255 := hw.size
      replace rp0 := keep hb rp0
      replace rp1 := keep hb rp1
      replace k0 := keepc hb k0
      replace k1 := keepc hb k1
      replace k2 := keepc hb k2
      replace k3 := keepc hb k3
      replace hw := Below.after hw hb
      clear hb
      refine hK_ _ _ (⟨rp0, rp1, k0, k1, k2, k3⟩) ?_
      simp only [Act.put, List.getElem_toArray, List.getElem_cons_succ, List.getElem_cons_zero, List.setIfInBounds_toArray, List.set_cons_succ, List.set_cons_zero]
      clear hK_
      generalize (wd237.alloc (.cells (irow .u8 (zr 32)) 24)) = wq255 at *
      generalize wd237.heap.size = g255 at *
      refine eH_one (k := 10) (fuel := 5) (by kernel_rfl) rfl (by kernel_rfl) (fun K_ hK_ => ?_)
      refine e_world_op (.pointer (some ⟨wq255.heap.size, 0, none⟩)) (wq255.alloc (.cells (irow .u8 (zr 32)) 24)) (by kernel_rfl) ?_
      have hb : Below wq255.heap.size wq255 (wq255.alloc (.cells (irow .u8 (zr 32)) 24)) := (Below.refl _ _).alloc (Nat.le_refl _) _
      have rg256 := hp1_0 wq255 (.cells (irow .u8 (zr 32)) 24)
      have lt_g256_0 := lt_of_row rp0
      have lt_g256_1 := lt_of_row rp1
      have lt_g256_2 := lt_of_row rg255
      have sz_g256 := hw.size
      replace rp0 := keep hb rp0
      replace rp1 := keep hb rp1
      replace rg255 := keep hb rg255
      replace k0 := keepc hb k0
      replace k1 := keepc hb k1
      replace k2 := keepc hb k2
      replace k3 := keepc hb k3
      replace hw := Below.after hw hb
      clear hb
      refine hK_ _ _ (⟨rp0, rp1, k0, k1, k2, k3⟩) ?_
      simp only [Act.put, List.getElem_toArray, List.getElem_cons_succ, List.getElem_cons_zero, List.setIfInBounds_toArray, List.set_cons_succ, List.set_cons_zero]
      clear hK_
      generalize (wq255.alloc (.cells (irow .u8 (zr 32)) 24)) = wq256 at *
      generalize wq255.heap.size = g256 at *
      refine wpAnyH_take (i := 12) (v := ?v257) rfl (by kernel_rfl) (by kernel_rfl) (by kernel_rfl) (fun _ _ _ h => h) (Or.inl ⟨by rfl, ?y257⟩) (⟨rp0, rp1, k0, k1, k2, k3⟩) ?r257
      case y257 =>
        intro w_ hS_
        go_simp
        try with_reducible rfl
      simp only [Act.put, List.getElem_toArray, List.getElem_cons_succ, List.getElem_cons_zero, List.setIfInBounds_toArray, List.set_cons_succ, List.set_cons_zero]
      refine wpAnyH_take (i := 13) (v := ?v258) rfl (by kernel_rfl) (by kernel_rfl) (by kernel_rfl) (fun _ _ _ h => h) (Or.inl ⟨by rfl, ?y258⟩) (⟨rp0, rp1, k0, k1, k2, k3⟩) ?r258
      case y258 =>
        intro w_ hS_
        go_simp
        try with_reducible rfl
      simp only [Act.put, List.getElem_toArray, List.getElem_cons_succ, List.getElem_cons_zero, List.setIfInBounds_toArray, List.set_cons_succ, List.set_cons_zero]
      refine eH_one (k := 14) (fuel := 2) (by kernel_rfl) rfl (by kernel_rfl) (fun K_ hK_ => ?_)
      refine wp_store_row 24 _ _ rfl (g256) (irow .u8 LF) rfl rfl 24 _ rg256 (infok8 _ hLF) (((irow_size _ _).trans (zr_len 32)).trans ((irow_size _ _).trans hLF).symm) (irow_one8 _) ?_
      have hN_ := setRow_heap wq256 (g256) _ (irow .u8 LF) _ _ rg256
      replace rp0 := (setRow_other wq256 (g256) (w.heap.size) (irow .u8 LF) (by omega)).trans rp0
      replace rp1 := (setRow_other wq256 (g256) (w.heap.size + 1) (irow .u8 LF) (by omega)).trans rp1
      replace rg255 := (setRow_other wq256 (g256) (g255) (irow .u8 LF) (by omega)).trans rg255
      replace hw := below_setRow hw (show w.heap.size ≤ g256 by omega) (irow .u8 LF)
      replace k0 := keepc2 k0 (setRow_other wq256 (g256) _ (irow .u8 LF) (by omega))
      replace k1 := keepc2 k1 (setRow_other wq256 (g256) _ (irow .u8 LF) (by omega))
      replace k2 := keepc2 k2 (setRow_other wq256 (g256) _ (irow .u8 LF) (by omega))
      replace k3 := keepc2 k3 (setRow_other wq256 (g256) _ (irow .u8 LF) (by omega))
      generalize (wq256.setRow (g256) (irow .u8 LF)) = wq259 at *
      clear rg256
      have rg256 := hN_
      clear hN_
      refine hK_ _ _ (⟨rp0, rp1, k0, k1, k2, k3⟩) ?_
      simp only [Act.put]
      clear hK_
      refine eH_one (k := 15) (fuel := 1) (by kernel_rfl) rfl (by kernel_rfl) (fun K_ hK_ => ?_)
      refine wp_store_row 24 _ _ rfl (g255) (irow .u8 OD) rfl rfl 24 _ rg255 (infok8 _ hOD) (((irow_size _ _).trans (zr_len 32)).trans ((irow_size _ _).trans hOD).symm) (irow_one8 _) ?_
      have hN_ := setRow_heap wq259 (g255) _ (irow .u8 OD) _ _ rg255
      replace rp0 := (setRow_other wq259 (g255) (w.heap.size) (irow .u8 OD) (by omega)).trans rp0
      replace rp1 := (setRow_other wq259 (g255) (w.heap.size + 1) (irow .u8 OD) (by omega)).trans rp1
      replace rg256 := (setRow_other wq259 (g255) (g256) (irow .u8 OD) (by omega)).trans rg256
      replace hw := below_setRow hw (show w.heap.size ≤ g255 by omega) (irow .u8 OD)
      replace k0 := keepc2 k0 (setRow_other wq259 (g255) _ (irow .u8 OD) (by omega))
      replace k1 := keepc2 k1 (setRow_other wq259 (g255) _ (irow .u8 OD) (by omega))
      replace k2 := keepc2 k2 (setRow_other wq259 (g255) _ (irow .u8 OD) (by omega))
      replace k3 := keepc2 k3 (setRow_other wq259 (g255) _ (irow .u8 OD) (by omega))
      generalize (wq259.setRow (g255) (irow .u8 OD)) = wq260 at *
      clear rg255
      have rg255 := hN_
      clear hN_
      refine hK_ _ _ (⟨rp0, rp1, k0, k1, k2, k3⟩) ?_
      simp only [Act.put]
      clear hK_
      refine wpAnyH_take (i := 16) (v := ?v261) rfl (by kernel_rfl) (by kernel_rfl) (by kernel_rfl) (fun _ _ _ h => h) (Or.inl ⟨by rfl, ?y261⟩) (⟨rp0, rp1, k0, k1, k2, k3⟩) ?r261
      case y261 =>
        intro w_ hS_
        go_simp
        try with_reducible rfl
      simp only [Act.put, List.getElem_toArray, List.getElem_cons_succ, List.getElem_cons_zero, List.setIfInBounds_toArray, List.set_cons_succ, List.set_cons_zero]
      refine wpAnyH_done (by kernel_rfl) ?_ _
      refine NoPanic.normal ?_
      go_wp2_with (fail)
      go_meet
      case rel => exact ⟨g256, g255, rfl, rfl, rfl, rfl, rfl, by omega, by omega, by omega, rp0, rp1, rg256, rg255, hw⟩
  case rest =>
    clear k0 k1 k2 k3
    obtain ⟨ga, gb, rfl, rfl, rfl, rfl, rfl, lga, lgb, gne, rp0, rp1, rla, rlb, hw⟩ := hcut
    go_wp2_with (fail)
    refine (cRr _ hw).mono ?_
    rintro e_ w3 ⟨rfl, hb⟩
    replace rp0 := keep hb rp0
    replace rp1 := keep hb rp1
    replace rla := keep hb rla
    replace rlb := keep hb rlb
    replace hw := Below.after hw hb
    clear hb
    go_wp2_with (first | (refine wpList_store_row rfl 24 _ _ rfl (w3.heap.size) (irow .u8 R) rfl rfl 24 (irow .u8 (zr 32)) (hp1_0 w3 _) (infok8 _ hR) (((irow_size _ _).trans (zr_len 32)).trans ((irow_size _ _).trans hR).symm) (irow_one8 _) ?_; rw [setRow_alloc_new _ _ _ _ _ _ (by simp)]; refine wpList_stay ?_) | fail)
    unfold WpStay
    try simp only [Act.put]
    have rl13 : (w3.alloc (.cells (irow .u8 R) 24)).heap[w3.heap.size]? = some (.cells (irow .u8 R) 24 (0, 0)) := hp1_0 w3 _
    have hb : Below w3.heap.size w3 (w3.alloc (.cells (irow .u8 R) 24)) := ((Below.refl _ _).alloc (Nat.le_refl _) _)
    generalize (w3.alloc (.cells (irow .u8 R) 24)) = w4 at *
    have lt_gr_0 := lt_of_row rp0
    have lt_gr_1 := lt_of_row rp1
    have lt_gr_2 := lt_of_row rla
    have lt_gr_3 := lt_of_row rlb
    have sz_gr := hw.size
    replace rp0 := keep hb rp0
    replace rp1 := keep hb rp1
    replace rla := keep hb rla
    replace rlb := keep hb rlb
    replace hw := Below.after hw hb
    clear hb
    generalize w3.heap.size = gr at *
    clear w3
    go_wp2_with (fail)
    have hb : Below w4.heap.size w4 w4.drew := below_drN (Below.refl _ _) 1
    replace rp0 := keep hb rp0
    replace rp1 := keep hb rp1
    replace rla := keep hb rla
    replace rlb := keep hb rlb
    replace rl13 := keep hb rl13
    replace hw := Below.after hw hb
    clear hb
    refine wp_region_noPanic ?_
    refine wp_region_held (S := fun W_ => W_.heap[gr]? = some (.cells (irow .u8 R) 24 (0, 0))) (by kernel_rfl) ?_
    change wpAnyH _ _ _ _ _ _ _ _ (World.drew _)
    generalize w4.drew = wd262 at *
    refine wpAnyH_take (i := 1) (v := ?v263) rfl (by kernel_rfl) (by kernel_rfl) (by kernel_rfl) (fun _ _ _ h => h) (Or.inl ⟨by rfl, ?y263⟩) (rl13) ?r263
    case y263 =>
      intro w_ hS_
      go_simp
      try with_reducible rfl
    simp only [Act.put, List.getElem_toArray, List.getElem_cons_succ, List.getElem_cons_zero, List.setIfInBounds_toArray, List.set_cons_succ, List.set_cons_zero]
    refine wpAnyH_take (i := 4) (v := .agg (irow .u8 R)) rfl (by kernel_rfl) (by kernel_rfl) (by kernel_rfl) (fun _ _ _ h => h) (Or.inl ⟨by rfl, ?y264⟩) (rl13) ?r264
    case y264 =>
      intro w_ hS_
      simp only [List.getElem_toArray, List.getElem_cons_succ, List.getElem_cons_zero]
      exact e_load_part 24 _ (by rfl) (gr) 0 (by rfl) 24 (irow .u8 R) (0, 0) (irow .u8 R) _ (hS_) (all_rowe _) Tryd.underlying24 rfl (infok8 _ hR)
    simp only [Act.put, List.getElem_toArray, List.getElem_cons_succ, List.getElem_cons_zero, List.setIfInBounds_toArray, List.set_cons_succ, List.set_cons_zero]
    refine eH_one (k := 0) (fuel := 7) (by kernel_rfl) rfl (by kernel_rfl) (fun K_ hK_ => ?_)
    refine e_world_op (.slice (some ⟨wd262.heap.size, 0, none⟩) 0 0) (wd262.alloc (.cells #[] 24)) (by kernel_rfl) ?_
    have hO := OwnK.empty wd262 (Nat.le_refl wd262.heap.size)
    have hb : Below wd262.heap.size wd262 (wd262.alloc (.cells #[] 24)) := (Below.refl _ _).alloc (Nat.le_refl _) _
    have lt_gk265_0 := lt_of_row rp0
    have lt_gk265_1 := lt_of_row rp1
    have lt_gk265_2 := lt_of_row rla
    have lt_gk265_3 := lt_of_row rlb
    have lt_gk265_4 := lt_of_row rl13
    have sz_gk265 := hw.size
    replace rp0 := keep hb rp0
    replace rp1 := keep hb rp1
    replace rla := keep hb rla
    replace rlb := keep hb rlb
    replace rl13 := keep hb rl13
    replace hw := Below.after hw hb
    clear hb
    have hsgk265 : wd262.heap.size ≤ (wd262.alloc (.cells #[] 24)).heap.size := by simp
    refine hK_ _ _ (rl13) ?_
    simp only [Act.put, List.getElem_toArray, List.getElem_cons_zero, List.setIfInBounds_toArray, List.set_cons_succ, List.set_cons_zero]
    clear hK_
    generalize (wd262.alloc (.cells #[] 24)) = wq265 at *
    generalize wd262.heap.size = gk265 at *
    refine eH_one (k := 2) (fuel := 6) (by kernel_rfl) rfl (by kernel_rfl) (fun K_ hK_ => ?_)
    refine wp_append_Ks _ _ rfl gk265 _ [] rfl hO _ l rfl (hL.keep hw) (by simp only [List.length_nil]; omega) hsgk265 (fun va_ wa266 hA_ hG_ _ => ?_)
    replace rp0 := (hG_.block _ (lt_of_row rp0) (by intro e; have e' : (w.heap.size) = gk265 := Option.some.inj e; omega)).trans rp0
    replace rp1 := (hG_.block _ (lt_of_row rp1) (by intro e; have e' : (w.heap.size + 1) = gk265 := Option.some.inj e; omega)).trans rp1
    replace rla := (hG_.block _ (lt_of_row rla) (by intro e; have e' : (ga) = gk265 := Option.some.inj e; omega)).trans rla
    replace rlb := (hG_.block _ (lt_of_row rlb) (by intro e; have e' : (gb) = gk265 := Option.some.inj e; omega)).trans rlb
    replace rl13 := (hG_.block _ (lt_of_row rl13) (by intro e; have e' : (gr) = gk265 := Option.some.inj e; omega)).trans rl13
    replace hw := hw.grown hG_ hw.size (fun k e => by have e' : gk265 = k := Option.some.inj e; omega)
    replace hA_ : OwnK wa266 gk265 va_ l := hA_
    have hCp := hA_.ksl hL.ok (by omega)
    clear hO hA_ hG_ hsgk265
    refine hK_ _ _ (rl13) ?_
    simp only [Act.put, List.getElem_toArray, List.getElem_cons_succ, List.getElem_cons_zero, List.setIfInBounds_toArray, List.set_cons_succ, List.set_cons_zero]
    clear hK_
    refine eH_one (k := 3) (fuel := 5) (by kernel_rfl) rfl (by kernel_rfl) (fun K_ hK_ => ?_)
    refine wp_call_ex (f := 18) (by kernel_rfl) (ex1e (cRa _ hw hCp)) (fun v_ wq267 hX_ => ?_)
    obtain ⟨rfl, hb⟩ := hX_
    replace rp0 := keep hb rp0
    replace rp1 := keep hb rp1
    replace rla := keep hb rla
    replace rlb := keep hb rlb
    replace rl13 := keep hb rl13
    replace hw := Below.after hw hb
    clear hb
    refine hK_ _ _ (rl13) ?_
    simp only [Act.put, List.getElem_toArray, List.getElem_cons_succ, List.getElem_cons_zero, List.setIfInBounds_toArray, List.set_cons_succ, List.set_cons_zero]
    clear hK_
    refine wpAnyH_take (i := 5) (v := ?v268) rfl (by kernel_rfl) (by kernel_rfl) (by kernel_rfl) (fun _ _ _ h => h) (Or.inl ⟨by rfl, ?y268⟩) (rl13) ?r268
    case y268 =>
      intro w_ hS_
      go_simp
      try with_reducible rfl
    simp only [Act.put, List.getElem_toArray, List.getElem_cons_succ, List.getElem_cons_zero, List.setIfInBounds_toArray, List.set_cons_succ, List.set_cons_zero]
    refine wpAnyH_take (i := 6) (v := ?v269) rfl (by kernel_rfl) (by kernel_rfl) (by kernel_rfl) (fun _ _ _ h => h) (Or.inl ⟨by rfl, ?y269⟩) (rl13) ?r269
    case y269 =>
      intro w_ hS_
      go_simp
      try with_reducible rfl
    simp only [Act.put, List.getElem_toArray, List.getElem_cons_succ, List.getElem_cons_zero, List.setIfInBounds_toArray, List.set_cons_succ, List.set_cons_zero]
    refine wpAnyH_take (i := 7) (v := ?v270) rfl (by kernel_rfl) (by kernel_rfl) (by kernel_rfl) (fun _ _ _ h => h) (Or.inl ⟨by rfl, ?y270⟩) (rl13) ?r270
    case y270 =>
      intro w_ hS_
      go_simp
      try with_reducible rfl
    simp only [Act.put, List.getElem_toArray, List.getElem_cons_succ, List.getElem_cons_zero, List.setIfInBounds_toArray, List.set_cons_succ, List.set_cons_zero]
    refine wpAnyH_take (i := 8) (v := ?v271) rfl (by kernel_rfl) (by kernel_rfl) (by kernel_rfl) (fun _ _ _ h => h) (Or.inl ⟨by rfl, ?y271⟩) (rl13) ?r271
    case y271 =>
      intro w_ hS_
      go_simp
      try with_reducible rfl
    simp only [Act.put, List.getElem_toArray, List.getElem_cons_succ, List.getElem_cons_zero, List.setIfInBounds_toArray, List.set_cons_succ, List.set_cons_zero]
    refine wpAnyH_take (i := 9) (v := ?v272) rfl (by kernel_rfl) (by kernel_rfl) (by kernel_rfl) (fun _ _ _ h => h) (Or.inl ⟨by rfl, ?y272⟩) (rl13) ?r272
    case y272 =>
      intro w_ hS_
      go_simp
      try with_reducible rfl
    simp only [Act.put, List.getElem_toArray, List.getElem_cons_succ, List.getElem_cons_zero, List.setIfInBounds_toArray, List.set_cons_succ, List.set_cons_zero]
    refine wpAnyH_done (by kernel_rfl) ?_ _
    refine NoPanic.normal ?_
    clear hCp
    go_wp2_with (fail)
    have hb : Below wq267.heap.size wq267 wq267.drew := below_drN (Below.refl _ _) 1
    replace rp0 := keep hb rp0
    replace rp1 := keep hb rp1
    replace rla := keep hb rla
    replace rlb := keep hb rlb
    replace rl13 := keep hb rl13
    replace hw := Below.after hw hb
    clear hb
    refine wp_region_noPanic ?_
    refine wp_region_held (S := fun W_ => W_.heap[gr]? = some (.cells (irow .u8 R) 24 (0, 0)) ∧ W_.heap[ga]? = some (.cells (irow .u8 LF) 24 (0, 0))) (by kernel_rfl) ?_
    change wpAnyH _ _ _ _ _ _ _ _ (World.drew _)
    generalize wq267.drew = wd273 at *
    refine wpAnyH_take (i := 0) (v := .agg (irow .u8 R)) rfl (by kernel_rfl) (by kernel_rfl) (by kernel_rfl) (fun _ _ _ h => h) (Or.inl ⟨by rfl, ?y274⟩) (⟨rl13, rla⟩) ?r274
    case y274 =>
      intro w_ hS_
      simp only [List.getElem_toArray, List.getElem_cons_zero]
      exact e_load_part 24 _ (by rfl) (gr) 0 (by rfl) 24 (irow .u8 R) (0, 0) (irow .u8 R) _ (hS_.1) (all_rowe _) Tryd.underlying24 rfl (infok8 _ hR)
    simp only [Act.put, List.getElem_toArray, List.getElem_cons_zero, List.setIfInBounds_toArray, List.set_cons_succ, List.set_cons_zero]
    refine wpAnyH_take (i := 1) (v := ?v275) rfl (by kernel_rfl) (by kernel_rfl) (by kernel_rfl) (fun _ _ _ h => h) (Or.inl ⟨by rfl, ?y275⟩) (⟨rl13, rla⟩) ?r275
    case y275 =>
      intro w_ hS_
      go_simp
      try with_reducible rfl
    simp only [Act.put, List.getElem_toArray, List.getElem_cons_succ, List.getElem_cons_zero, List.setIfInBounds_toArray, List.set_cons_succ, List.set_cons_zero]
    refine wpAnyH_take (i := 2) (v := ?v276) rfl (by kernel_rfl) (by kernel_rfl) (by kernel_rfl) (fun _ _ _ h => h) (Or.inl ⟨by rfl, ?y276⟩) (⟨rl13, rla⟩) ?r276
    case y276 =>
      intro w_ hS_
      go_simp
      try with_reducible rfl
    simp only [Act.put, List.getElem_toArray, List.getElem_cons_succ, List.getElem_cons_zero, List.setIfInBounds_toArray, List.set_cons_succ, List.set_cons_zero]
    refine wpAnyH_take (i := 3) (v := .agg (irow .u8 LF)) rfl (by kernel_rfl) (by kernel_rfl) (by kernel_rfl) (fun _ _ _ h => h) (Or.inl ⟨by rfl, ?y277⟩) (⟨rl13, rla⟩) ?r277
    case y277 =>
      intro w_ hS_
      simp only [List.getElem_toArray, List.getElem_cons_succ, List.getElem_cons_zero]
      exact e_load_part 24 _ (by rfl) (ga) 0 (by rfl) 24 (irow .u8 LF) (0, 0) (irow .u8 LF) _ (hS_.2) (all_rowe _) Tryd.underlying24 rfl (infok8 _ hLF)
    simp only [Act.put, List.getElem_toArray, List.getElem_cons_succ, List.getElem_cons_zero, List.setIfInBounds_toArray, List.set_cons_succ, List.set_cons_zero]
    refine wpAnyH_take (i := 5) (v := ?v278) rfl (by kernel_rfl) (by kernel_rfl) (by kernel_rfl) (fun _ _ _ h => h) (Or.inl ⟨by rfl, ?y278⟩) (⟨rl13, rla⟩) ?r278
    case y278 =>
      intro w_ hS_
      go_simp
      try with_reducible rfl
    simp only [Act.put, List.getElem_toArray, List.getElem_cons_succ, List.getElem_cons_zero, List.setIfInBounds_toArray, List.set_cons_succ, List.set_cons_zero]
    refine eH_one (k := 4) (fuel := 3) (by kernel_rfl) rfl (by kernel_rfl) (fun K_ hK_ => ?_)
    refine e_world_op (.slice (some ⟨wd273.heap.size, 0, none⟩) 0 0) (wd273.alloc (.cells #[] 24)) (by kernel_rfl) ?_
    have hO := OwnK.empty wd273 (Nat.le_refl wd273.heap.size)
    have hb : Below wd273.heap.size wd273 (wd273.alloc (.cells #[] 24)) := (Below.refl _ _).alloc (Nat.le_refl _) _
    have lt_gk279_0 := lt_of_row rp0
    have lt_gk279_1 := lt_of_row rp1
    have lt_gk279_2 := lt_of_row rla
    have lt_gk279_3 := lt_of_row rlb
    have lt_gk279_4 := lt_of_row rl13
    have sz_gk279 := hw.size
    replace rp0 := keep hb rp0
    replace rp1 := keep hb rp1
    replace rla := keep hb rla
    replace rlb := keep hb rlb
    replace rl13 := keep hb rl13
    replace hw := Below.after hw hb
    clear hb
    have hsgk279 : wd273.heap.size ≤ (wd273.alloc (.cells #[] 24)).heap.size := by simp
    refine hK_ _ _ (⟨rl13, rla⟩) ?_
    simp only [Act.put, List.getElem_toArray, List.getElem_cons_succ, List.getElem_cons_zero, List.setIfInBounds_toArray, List.set_cons_succ, List.set_cons_zero]
    clear hK_
    generalize (wd273.alloc (.cells #[] 24)) = wq279 at *
    generalize wd273.heap.size = gk279 at *
    refine eH_one (k := 6) (fuel := 2) (by kernel_rfl) rfl (by kernel_rfl) (fun K_ hK_ => ?_)
    refine wp_append_Ks _ _ rfl gk279 _ [] rfl hO _ P rfl (hP.keep hw) (by simp only [List.length_nil]; omega) hsgk279 (fun va_ wa280 hA_ hG_ _ => ?_)
    replace rp0 := (hG_.block _ (lt_of_row rp0) (by intro e; have e' : (w.heap.size) = gk279 := Option.some.inj e; omega)).trans rp0
    replace rp1 := (hG_.block _ (lt_of_row rp1) (by intro e; have e' : (w.heap.size + 1) = gk279 := Option.some.inj e; omega)).trans rp1
    replace rla := (hG_.block _ (lt_of_row rla) (by intro e; have e' : (ga) = gk279 := Option.some.inj e; omega)).trans rla
    replace rlb := (hG_.block _ (lt_of_row rlb) (by intro e; have e' : (gb) = gk279 := Option.some.inj e; omega)).trans rlb
    replace rl13 := (hG_.block _ (lt_of_row rl13) (by intro e; have e' : (gr) = gk279 := Option.some.inj e; omega)).trans rl13
    replace hw := hw.grown hG_ hw.size (fun k e => by have e' : gk279 = k := Option.some.inj e; omega)
    replace hA_ : OwnK wa280 gk279 va_ P := hA_
    have hCp := hA_.ksl hP.ok (by omega)
    clear hO hA_ hG_ hsgk279
    refine hK_ _ _ (⟨rl13, rla⟩) ?_
    simp only [Act.put, List.getElem_toArray, List.getElem_cons_succ, List.getElem_cons_zero, List.setIfInBounds_toArray, List.set_cons_succ, List.set_cons_zero]
    clear hK_
    refine eH_one (k := 7) (fuel := 1) (by kernel_rfl) rfl (by kernel_rfl) (fun K_ hK_ => ?_)
    refine wp_call_ex (f := 29) (by kernel_rfl) (ex1e (cI1 _ hw hCp)) (fun v_ wq281 hX_ => ?_)
    obtain ⟨rfl, hb⟩ := hX_
    replace rp0 := keep hb rp0
    replace rp1 := keep hb rp1
    replace rla := keep hb rla
    replace rlb := keep hb rlb
    replace rl13 := keep hb rl13
    replace hw := Below.after hw hb
    clear hb
    refine hK_ _ _ (⟨rl13, rla⟩) ?_
    simp only [Act.put, List.getElem_toArray, List.getElem_cons_succ, List.getElem_cons_zero, List.setIfInBounds_toArray, List.set_cons_succ, List.set_cons_zero]
    clear hK_
    refine wpAnyH_take (i := 8) (v := ?v282) rfl (by kernel_rfl) (by kernel_rfl) (by kernel_rfl) (fun _ _ _ h => h) (Or.inl ⟨by rfl, ?y282⟩) (⟨rl13, rla⟩) ?r282
    case y282 =>
      intro w_ hS_
      go_simp
      try with_reducible rfl
    simp only [Act.put, List.getElem_toArray, List.getElem_cons_succ, List.getElem_cons_zero, List.setIfInBounds_toArray, List.set_cons_succ, List.set_cons_zero]
    refine wpAnyH_done (by kernel_rfl) ?_ _
    refine NoPanic.normal ?_
    clear hCp
    go_upto_if 54 with (fail)
    go_cut [6] from 14 to 147 (fun u6 wx => u6 = .bool false ∧ wx.heap[w.heap.size]? = some (.cells (plrow pr LF pn ai (.slice po P.length pc)) 52 (0, 0)) ∧ wx.heap[w.heap.size + 1]? = some (.cells (plrow OD cr mi cn_ (.slice qo Q.length qc)) 56 (0, 0)) ∧ wx.heap[ga]? = some (.cells (irow .u8 LF) 24 (0, 0)) ∧ wx.heap[gb]? = some (.cells (irow .u8 OD) 24 (0, 0)) ∧ wx.heap[gr]? = some (.cells (irow .u8 R) 24 (0, 0)) ∧ Below w.heap.size w wx)
    case first =>
      cases e1
      · skip
        go_wp2_with (fail)
        go_meet
        case rel => exact ⟨rfl, rp0, rp1, rla, rlb, rl13, hw⟩
      · skip
        obtain ⟨hai, hI⟩ := h1 rfl
        obtain ⟨_, _, e, _, _, _, _, hp⟩ := id hL
        injection e with e1_ e2_ e3_
        subst e1_ e3_
        clear e2_
        obtain ⟨pg, po_, pcs, pt, pf, rfl, hpg, hx⟩ := hp I hI
        clear hp
        subst hai
        have dn1 : ((l.length : Int) == 0) = false := by simp; intro h; rw [h] at hI; simp at hI
        have dn0 : decide ((l.length : Int) = 0) = false := by simp; intro h; rw [h] at hI; simp at hI
        have di : decide ((I : Int) < 0) = false := by simp
        have dj : decide ((I : Int) ≥ (l.length : Int)) = false := by simp; omega
        have jm : (I : Int) < (l.length : Int) := by omega
        have hEl := (hL.ok.at hI).1
        have hq := hq1 rfl
        have cM := cMd rfl
        have cC := cCl1 rfl
        generalize l.getD I [] = E at *
        have rq := keep hw hpg
        go_wp2_with (fail)
        have hb : Below wq281.heap.size wq281 wq281.drew := below_drN (Below.refl _ _) 1
        replace rp0 := keep hb rp0
        replace rp1 := keep hb rp1
        replace rla := keep hb rla
        replace rlb := keep hb rlb
        replace rl13 := keep hb rl13
        replace rq := keep hb rq
        replace hw := Below.after hw hb
        clear hb
        refine wp_region_noPanic ?_
        refine wp_region_held (S := fun W_ => W_.heap[ga]? = some (.cells (irow .u8 LF) 24 (0, 0)) ∧ W_.heap[pg]? = some (.cells pcs pt pf)) (by kernel_rfl) ?_
        change wpAnyH _ _ _ _ _ _ _ _ (World.drew _)
        generalize wq281.drew = wd283 at *
        refine wpAnyH_take (i := 0) (v := .agg (irow .u8 LF)) rfl (by kernel_rfl) (by kernel_rfl) (by kernel_rfl) (fun _ _ _ h => h) (Or.inl ⟨by rfl, ?y284⟩) (⟨rla, rq⟩) ?r284
        case y284 =>
          intro w_ hS_
          simp only [List.getElem_toArray, List.getElem_cons_zero]
          exact e_load_part 24 _ (by rfl) (ga) 0 (by rfl) 24 (irow .u8 LF) (0, 0) (irow .u8 LF) _ (hS_.1) (all_rowe _) Tryd.underlying24 rfl (infok8 _ hLF)
        simp only [Act.put, List.getElem_toArray, List.getElem_cons_zero, List.setIfInBounds_toArray, List.set_cons_succ, List.set_cons_zero]
        refine wpAnyH_take (i := 1) (v := ?v285) rfl (by kernel_rfl) (by kernel_rfl) (by kernel_rfl) (fun _ _ _ h => h) (Or.inl ⟨by rfl, ?y285⟩) (⟨rla, rq⟩) ?r285
        case y285 =>
          intro w_ hS_
          go_simp
          try with_reducible rfl
        simp only [Act.put, List.getElem_toArray, List.getElem_cons_succ, List.getElem_cons_zero, List.setIfInBounds_toArray, List.set_cons_succ, List.set_cons_zero]
        refine wpAnyH_take (i := 2) (v := ?v286) rfl (by kernel_rfl) (by kernel_rfl) (by kernel_rfl) (fun _ _ _ h => h) (Or.inl ⟨by rfl, ?y286⟩) (⟨rla, rq⟩) ?r286
        case y286 =>
          intro w_ hS_
          go_simp
          try with_reducible rfl
        simp only [Act.put, List.getElem_toArray, List.getElem_cons_succ, List.getElem_cons_zero, List.setIfInBounds_toArray, List.set_cons_succ, List.set_cons_zero]
        refine wpAnyH_take (i := 3) (v := ?v287) rfl (by kernel_rfl) (by kernel_rfl) (by kernel_rfl) (fun _ _ _ h => h) (Or.inl ⟨by rfl, ?y287⟩) (⟨rla, rq⟩) ?r287
        case y287 =>
          intro w_ hS_
          go_simp
          try with_reducible rfl
        simp only [Act.put, List.getElem_toArray, List.getElem_cons_succ, List.getElem_cons_zero, List.setIfInBounds_toArray, List.set_cons_succ, List.set_cons_zero]
        refine wpAnyH_take (i := 4) (v := .agg (irow .u8 E)) rfl (by kernel_rfl) (by kernel_rfl) (by kernel_rfl) (fun _ _ _ h => h) (Or.inl ⟨by rfl, ?y288⟩) (⟨rla, rq⟩) ?r288
        case y288 =>
          intro w_ hS_
          simp only [List.getElem_toArray, List.getElem_cons_succ, List.getElem_cons_zero]
          exact e_load_part 24 _ (by rfl) pg (po_ + I * 32) (by rfl) pt pcs pf (irow .u8 E) _ (hS_.2) hx Tryd.underlying24 rfl (infok8 _ hEl)
        simp only [Act.put, List.getElem_toArray, List.getElem_cons_succ, List.getElem_cons_zero, List.setIfInBounds_toArray, List.set_cons_succ, List.set_cons_zero]
        refine wpAnyH_take (i := 5) (v := ?v289) rfl (by kernel_rfl) (by kernel_rfl) (by kernel_rfl) (fun _ _ _ h => h) (Or.inl ⟨by rfl, ?y289⟩) (⟨rla, rq⟩) ?r289
        case y289 =>
          intro w_ hS_
          go_simp
          try with_reducible rfl
        simp only [Act.put, List.getElem_toArray, List.getElem_cons_succ, List.getElem_cons_zero, List.setIfInBounds_toArray, List.set_cons_succ, List.set_cons_zero]
        refine wpAnyH_done (by kernel_rfl) ?_ _
        refine NoPanic.normal ?_
        clear rq
        cases eqf
        · skip
          go_wp2_with (first | (refine wpList_load_part rfl 24 _ rfl (ga) 0 rfl 24 (irow .u8 LF) (0, 0) (irow .u8 LF) _ rla (all_rowe _) Tryd.underlying24 rfl (infok8 _ hLF) ?_) | (refine wpList_load_part rfl 24 _ rfl (gb) 0 rfl 24 (irow .u8 OD) (0, 0) (irow .u8 OD) _ rlb (all_rowe _) Tryd.underlying24 rfl (infok8 _ hOD) ?_) | (refine wpList_load_part rfl 24 _ rfl (gr) 0 rfl 24 (irow .u8 R) (0, 0) (irow .u8 R) _ rl13 (all_rowe _) Tryd.underlying24 rfl (infok8 _ hR) ?_) | fail)
          have hsr := hw.size
          refine (cM (by first | rfl | trivial) _ hw).mono ?_
          rintro e_ wm ⟨_, rfl, vt, rfl, hT1, hb⟩
          replace rp0 := keep hb rp0
          replace rp1 := keep hb rp1
          replace rla := keep hb rla
          replace rlb := keep hb rlb
          replace rl13 := keep hb rl13
          replace hw := Below.after hw hb
          clear hb
          replace hT1 := hT1.down hsr
          clear hsr
          go_wp2_with (first | (refine wpList_store_row rfl 24 _ _ rfl (wm.heap.size) (irow .u8 A) rfl rfl 24 (irow .u8 (zr 32)) (hp1_0 wm _) (infok8 _ hA) (((irow_size _ _).trans (zr_len 32)).trans ((irow_size _ _).trans hA).symm) (irow_one8 _) ?_; rw [setRow_alloc_new _ _ _ _ _ _ (by simp)]; refine wpList_stay ?_) | fail)
          unfold WpStay
          try simp only [Act.put]
          have rl14 : (wm.alloc (.cells (irow .u8 A) 24)).heap[wm.heap.size]? = some (.cells (irow .u8 A) 24 (0, 0)) := hp1_0 wm _
          have hb : Below wm.heap.size wm (wm.alloc (.cells (irow .u8 A) 24)) := ((Below.refl _ _).alloc (Nat.le_refl _) _)
          generalize (wm.alloc (.cells (irow .u8 A) 24)) = wn at *
          have lt_gm_0 := lt_of_row rp0
          have lt_gm_1 := lt_of_row rp1
          have lt_gm_2 := lt_of_row rla
          have lt_gm_3 := lt_of_row rlb
          have lt_gm_4 := lt_of_row rl13
          have sz_gm := hw.size
          replace rp0 := keep hb rp0
          replace rp1 := keep hb rp1
          replace rla := keep hb rla
          replace rlb := keep hb rlb
          replace rl13 := keep hb rl13
          replace hT1 := hT1.keep hb
          replace hw := Below.after hw hb
          clear hb
          generalize wm.heap.size = gm at *
          clear wm
          go_wp2_with (fail)
          have hsr := hw.size
          refine (cTx _ hw).mono ?_
          rintro e_ wt ⟨vx, rfl, hTX, hb⟩
          replace rp0 := keep hb rp0
          replace rp1 := keep hb rp1
          replace rla := keep hb rla
          replace rlb := keep hb rlb
          replace rl13 := keep hb rl13
          replace rl14 := keep hb rl14
          replace hT1 := hT1.keep hb
          replace hw := Below.after hw hb
          clear hb
          replace hTX := hTX.down hsr
          clear hsr
          go_wp2_with (at_builtin; refine wpList_append_T rfl (.tmp 80) (.tmp 82) rfl w.heap.size _ (T1) rfl hT1 _ (TX) rfl hTX (by first | omega | (simp only [List.length_append]; omega)) hw.size ?_)
          intro va_ wz290 hTT hG_
          replace rp0 := (hG_.block _ (lt_of_row rp0) (own_neT hT1 rp0 (by decide))).trans rp0
          replace rp1 := (hG_.block _ (lt_of_row rp1) (own_neT hT1 rp1 (by decide))).trans rp1
          replace rla := (hG_.block _ (lt_of_row rla) (own_neT hT1 rla (by decide))).trans rla
          replace rlb := (hG_.block _ (lt_of_row rlb) (own_neT hT1 rlb (by decide))).trans rlb
          replace rl13 := (hG_.block _ (lt_of_row rl13) (own_neT hT1 rl13 (by decide))).trans rl13
          replace rl14 := (hG_.block _ (lt_of_row rl14) (own_neT hT1 rl14 (by decide))).trans rl14
          replace hw := hw.grown hG_ hw.size (fun k e => (hT1.lt k e).1)
          clear hT1 hTX hG_
          go_wp2_with (fail)
          refine (cC (by first | rfl | trivial) _ hw hTT).mono ?_
          rintro e_ wo ⟨rfl, hb⟩
          replace rp0 := keep hb rp0
          replace rp1 := keep hb rp1
          replace rla := keep hb rla
          replace rlb := keep hb rlb
          replace rl13 := keep hb rl13
          replace rl14 := keep hb rl14
          replace hTT := hTT.keep hb
          replace hw := Below.after hw hb
          clear hb
          go_wp2_with (fail)
          go_meet
          case rel => exact ⟨rfl, rp0, rp1, rla, rlb, rl13, hw⟩
        · skip
          go_wp2_with (fail)
          go_meet
          case rel => exact ⟨rfl, rp0, rp1, rla, rlb, rl13, hw⟩
    case rest =>
      obtain ⟨rfl, rp0, rp1, rla, rlb, rl13, hw⟩ := hcut
      go_wp2_with (fail)
      have k3 := cell_of rp1 ((pl_at OD cr mi cn_ (.slice qo Q.length qc) hOD hcr 2).trans rfl)
      have hb : Below wc.heap.size wc wc.drew := below_drN (Below.refl _ _) 1
      replace rp0 := keep hb rp0
      replace rp1 := keep hb rp1
      replace rla := keep hb rla
      replace rlb := keep hb rlb
      replace rl13 := keep hb rl13
      replace k3 := keepc hb k3
      replace hw := Below.after hw hb
      clear hb
      refine wp_region_noPanic ?_
      refine wp_region_held (S := fun W_ => W_.heap[gb]? = some (.cells (irow .u8 OD) 24 (0, 0)) ∧ W_.heap[gr]? = some (.cells (irow .u8 R) 24 (0, 0)) ∧ W_.cell? ⟨w.heap.size + 1, 66, none⟩ = some (.slice qo Q.length qc)) (by kernel_rfl) ?_
      change wpAnyH _ _ _ _ _ _ _ _ (World.drew _)
      generalize wc.drew = wd291 at *
      refine wpAnyH_take (i := 0) (v := .agg (irow .u8 OD)) rfl (by kernel_rfl) (by kernel_rfl) (by kernel_rfl) (fun _ _ _ h => h) (Or.inl ⟨by rfl, ?y292⟩) (⟨rlb, rl13, k3⟩) ?r292
      case y292 =>
        intro w_ hS_
        simp only [List.getElem_toArray, List.getElem_cons_zero]
        exact e_load_part 24 _ (by rfl) (gb) 0 (by rfl) 24 (irow .u8 OD) (0, 0) (irow .u8 OD) _ (hS_.1) (all_rowe _) Tryd.underlying24 rfl (infok8 _ hOD)
      simp only [Act.put, List.getElem_toArray, List.getElem_cons_zero, List.setIfInBounds_toArray, List.set_cons_succ, List.set_cons_zero]
      refine wpAnyH_take (i := 1) (v := ?v293) rfl (by kernel_rfl) (by kernel_rfl) (by kernel_rfl) (fun _ _ _ h => h) (Or.inl ⟨by rfl, ?y293⟩) (⟨rlb, rl13, k3⟩) ?r293
      case y293 =>
        intro w_ hS_
        go_simp
        try with_reducible rfl
      simp only [Act.put, List.getElem_toArray, List.getElem_cons_succ, List.getElem_cons_zero, List.setIfInBounds_toArray, List.set_cons_succ, List.set_cons_zero]
      refine wpAnyH_take (i := 2) (v := .agg (irow .u8 R)) rfl (by kernel_rfl) (by kernel_rfl) (by kernel_rfl) (fun _ _ _ h => h) (Or.inl ⟨by rfl, ?y294⟩) (⟨rlb, rl13, k3⟩) ?r294
      case y294 =>
        intro w_ hS_
        simp only [List.getElem_toArray, List.getElem_cons_succ, List.getElem_cons_zero]
        exact e_load_part 24 _ (by rfl) (gr) 0 (by rfl) 24 (irow .u8 R) (0, 0) (irow .u8 R) _ (hS_.2.1) (all_rowe _) Tryd.underlying24 rfl (infok8 _ hR)
      simp only [Act.put, List.getElem_toArray, List.getElem_cons_succ, List.getElem_cons_zero, List.setIfInBounds_toArray, List.set_cons_succ, List.set_cons_zero]
      refine wpAnyH_take (i := 3) (v := ?v295) rfl (by kernel_rfl) (by kernel_rfl) (by kernel_rfl) (fun _ _ _ h => h) (Or.inl ⟨by rfl, ?y295⟩) (⟨rlb, rl13, k3⟩) ?r295
      case y295 =>
        intro w_ hS_
        go_simp
        try with_reducible rfl
      simp only [Act.put, List.getElem_toArray, List.getElem_cons_succ, List.getElem_cons_zero, List.setIfInBounds_toArray, List.set_cons_succ, List.set_cons_zero]
      refine wpAnyH_take (i := 5) (v := ?v296) rfl (by kernel_rfl) (by kernel_rfl) (by kernel_rfl) (fun _ _ _ h => h) (Or.inl ⟨by rfl, ?y296⟩) (⟨rlb, rl13, k3⟩) ?r296
      case y296 =>
        intro w_ hS_
        go_simp
        try with_reducible rfl
      simp only [Act.put, List.getElem_toArray, List.getElem_cons_succ, List.getElem_cons_zero, List.setIfInBounds_toArray, List.set_cons_succ, List.set_cons_zero]
      refine wpAnyH_take (i := 6) (v := .slice qo Q.length qc) rfl (by kernel_rfl) (by kernel_rfl) (by kernel_rfl) (fun _ _ _ h => h) (Or.inl ⟨by rfl, ?y297⟩) (⟨rlb, rl13, k3⟩) ?r297
      case y297 =>
        intro w_ hS_
        obtain ⟨z0, z1, z2⟩ := hS_
        go_simp
        try with_reducible rfl
      simp only [Act.put, List.getElem_toArray, List.getElem_cons_succ, List.getElem_cons_zero, List.setIfInBounds_toArray, List.set_cons_succ, List.set_cons_zero]
      refine eH_one (k := 4) (fuel := 3) (by kernel_rfl) rfl (by kernel_rfl) (fun K_ hK_ => ?_)
      refine e_world_op (.slice (some ⟨wd291.heap.size, 0, none⟩) 0 0) (wd291.alloc (.cells #[] 24)) (by kernel_rfl) ?_
      have hO := OwnK.empty wd291 (Nat.le_refl wd291.heap.size)
      have hb : Below wd291.heap.size wd291 (wd291.alloc (.cells #[] 24)) := (Below.refl _ _).alloc (Nat.le_refl _) _
      have lt_gk298_0 := lt_of_row rp0
      have lt_gk298_1 := lt_of_row rp1
      have lt_gk298_2 := lt_of_row rla
      have lt_gk298_3 := lt_of_row rlb
      have lt_gk298_4 := lt_of_row rl13
      have sz_gk298 := hw.size
      replace rp0 := keep hb rp0
      replace rp1 := keep hb rp1
      replace rla := keep hb rla
      replace rlb := keep hb rlb
      replace rl13 := keep hb rl13
      replace k3 := keepc hb k3
      replace hw := Below.after hw hb
      clear hb
      have hsgk298 : wd291.heap.size ≤ (wd291.alloc (.cells #[] 24)).heap.size := by simp
      refine hK_ _ _ (⟨rlb, rl13, k3⟩) ?_
      simp only [Act.put, List.getElem_toArray, List.getElem_cons_succ, List.getElem_cons_zero, List.setIfInBounds_toArray, List.set_cons_succ, List.set_cons_zero]
      clear hK_
      generalize (wd291.alloc (.cells #[] 24)) = wq298 at *
      generalize wd291.heap.size = gk298 at *
      refine eH_one (k := 7) (fuel := 2) (by kernel_rfl) rfl (by kernel_rfl) (fun K_ hK_ => ?_)
      refine wp_append_Ks _ _ rfl gk298 _ [] rfl hO _ Q rfl (hQ.keep hw) (by simp only [List.length_nil]; omega) hsgk298 (fun va_ wa299 hA_ hG_ _ => ?_)
      replace rp0 := (hG_.block _ (lt_of_row rp0) (by intro e; have e' : (w.heap.size) = gk298 := Option.some.inj e; omega)).trans rp0
      replace rp1 := (hG_.block _ (lt_of_row rp1) (by intro e; have e' : (w.heap.size + 1) = gk298 := Option.some.inj e; omega)).trans rp1
      replace rla := (hG_.block _ (lt_of_row rla) (by intro e; have e' : (ga) = gk298 := Option.some.inj e; omega)).trans rla
      replace rlb := (hG_.block _ (lt_of_row rlb) (by intro e; have e' : (gb) = gk298 := Option.some.inj e; omega)).trans rlb
      replace rl13 := (hG_.block _ (lt_of_row rl13) (by intro e; have e' : (gr) = gk298 := Option.some.inj e; omega)).trans rl13
      replace k3 := keepb k3 (hG_.block _ (blk_ltT k3) (by intro e; have e' : (w.heap.size + 1) = gk298 := Option.some.inj e; omega))
      replace hw := hw.grown hG_ hw.size (fun k e => by have e' : gk298 = k := Option.some.inj e; omega)
      replace hA_ : OwnK wa299 gk298 va_ Q := hA_
      have hCp := hA_.ksl hQ.ok (by omega)
      clear hO hA_ hG_ hsgk298
      refine hK_ _ _ (⟨rlb, rl13, k3⟩) ?_
      simp only [Act.put, List.getElem_toArray, List.getElem_cons_succ, List.getElem_cons_zero, List.setIfInBounds_toArray, List.set_cons_succ, List.set_cons_zero]
      clear hK_
      refine eH_one (k := 8) (fuel := 1) (by kernel_rfl) rfl (by kernel_rfl) (fun K_ hK_ => ?_)
      refine wp_call_ex (f := 31) (by kernel_rfl) (ex1e (cG _ hw hCp)) (fun v_ wq300 hX_ => ?_)
      obtain ⟨rfl, hb⟩ := hX_
      replace rp0 := keep hb rp0
      replace rp1 := keep hb rp1
      replace rla := keep hb rla
      replace rlb := keep hb rlb
      replace rl13 := keep hb rl13
      replace k3 := keepc hb k3
      replace hw := Below.after hw hb
      clear hb
      refine hK_ _ _ (⟨rlb, rl13, k3⟩) ?_
      simp only [Act.put, List.getElem_toArray, List.getElem_cons_succ, List.getElem_cons_zero, List.setIfInBounds_toArray, List.set_cons_succ, List.set_cons_zero]
      clear hK_
      refine wpAnyH_take (i := 9) (v := ?v301) rfl (by kernel_rfl) (by kernel_rfl) (by kernel_rfl) (fun _ _ _ h => h) (Or.inl ⟨by rfl, ?y301⟩) (⟨rlb, rl13, k3⟩) ?r301
      case y301 =>
        intro w_ hS_
        go_simp
        try with_reducible rfl
      simp only [Act.put, List.getElem_toArray, List.getElem_cons_succ, List.getElem_cons_zero, List.setIfInBounds_toArray, List.set_cons_succ, List.set_cons_zero]
      refine wpAnyH_done (by kernel_rfl) ?_ _
      refine NoPanic.normal ?_
      clear hCp k3
      go_upto_if 95 with (fail)
      go_cut [6] from 14 to 147 (fun u6 wx => u6 = .bool false ∧ wx.heap[w.heap.size]? = some (.cells (plrow pr LF pn ai (.slice po P.length pc)) 52 (0, 0)) ∧ wx.heap[w.heap.size + 1]? = some (.cells (plrow OD cr mi cn_ (.slice qo Q.length qc)) 56 (0, 0)) ∧ wx.heap[ga]? = some (.cells (irow .u8 LF) 24 (0, 0)) ∧ wx.heap[gb]? = some (.cells (irow .u8 OD) 24 (0, 0)) ∧ wx.heap[gr]? = some (.cells (irow .u8 R) 24 (0, 0)) ∧ Below w.heap.size w wx)
      case first =>
        cases e2
        · skip
          go_wp2_with (fail)
          go_meet
          case rel => exact ⟨rfl, rp0, rp1, rla, rlb, rl13, hw⟩
        · skip
          obtain ⟨hmi, hM⟩ := h2 rfl
          subst hmi
          have di : decide ((M : Int) < 0) = false := by simp
          have dj : decide ((M : Int) > (l.length : Int)) = false := by simp; omega
          have hq := hq2 rfl
          have cB := cBo rfl
          have cC := cCl2 rfl
          have cR_ := cRm rfl
          have h3_ := h3 rfl
          go_wp2_with (fail)
          have hb : Below wq300.heap.size wq300 wq300.drew := below_drN (Below.refl _ _) 1
          replace rp0 := keep hb rp0
          replace rp1 := keep hb rp1
          replace rla := keep hb rla
          replace rlb := keep hb rlb
          replace rl13 := keep hb rl13
          replace hw := Below.after hw hb
          clear hb
          refine wp_region_noPanic ?_
          refine wp_region_held (S := fun W_ => W_.heap[gb]? = some (.cells (irow .u8 OD) 24 (0, 0))) (by kernel_rfl) ?_
          change wpAnyH _ _ _ _ _ _ _ _ (World.drew _)
          generalize wq300.drew = wd302 at *
          refine wpAnyH_take (i := 0) (v := .agg (irow .u8 OD)) rfl (by kernel_rfl) (by kernel_rfl) (by kernel_rfl) (fun _ _ _ h => h) (Or.inl ⟨by rfl, ?y303⟩) (rlb) ?r303
          case y303 =>
            intro w_ hS_
            simp only [List.getElem_toArray, List.getElem_cons_zero]
            exact e_load_part 24 _ (by rfl) (gb) 0 (by rfl) 24 (irow .u8 OD) (0, 0) (irow .u8 OD) _ (hS_) (all_rowe _) Tryd.underlying24 rfl (infok8 _ hOD)
          simp only [Act.put, List.getElem_toArray, List.getElem_cons_zero, List.setIfInBounds_toArray, List.set_cons_succ, List.set_cons_zero]
          refine wpAnyH_take (i := 1) (v := ?v304) rfl (by kernel_rfl) (by kernel_rfl) (by kernel_rfl) (fun _ _ _ h => h) (Or.inl ⟨by rfl, ?y304⟩) (rlb) ?r304
          case y304 =>
            intro w_ hS_
            go_simp
            try with_reducible rfl
          simp only [Act.put, List.getElem_toArray, List.getElem_cons_succ, List.getElem_cons_zero, List.setIfInBounds_toArray, List.set_cons_succ, List.set_cons_zero]
          refine wpAnyH_take (i := 2) (v := ?v305) rfl (by kernel_rfl) (by kernel_rfl) (by kernel_rfl) (fun _ _ _ h => h) (Or.inl ⟨by rfl, ?y305⟩) (rlb) ?r305
          case y305 =>
            intro w_ hS_
            go_simp
            try with_reducible rfl
          simp only [Act.put, List.getElem_toArray, List.getElem_cons_succ, List.getElem_cons_zero, List.setIfInBounds_toArray, List.set_cons_succ, List.set_cons_zero]
          refine wpAnyH_take (i := 3) (v := .slice vo M vc) rfl (by kernel_rfl) (by kernel_rfl) (by kernel_rfl) (fun _ _ _ h => h) (Or.inl ⟨by rfl, ?y306⟩) (rlb) ?r306
          case y306 =>
            intro w_ hS_
            simp only [List.getElem_toArray, List.getElem_cons_succ, List.getElem_cons_zero]
            exact e_slice _ _ _ _ rfl _ (slk_head vo l.length vc M (by omega) hz _)
          simp only [Act.put, List.getElem_toArray, List.getElem_cons_succ, List.getElem_cons_zero, List.setIfInBounds_toArray, List.set_cons_succ, List.set_cons_zero]
          refine eH_one (k := 4) (fuel := 1) (by kernel_rfl) rfl (by kernel_rfl) (fun K_ hK_ => ?_)
          refine wp_call_ex (f := 19) (by kernel_rfl) (ex1e (cR_ _ hw)) (fun v_ wq307 hX_ => ?_)
          obtain ⟨rfl, hb⟩ := hX_
          replace rp0 := keep hb rp0
          replace rp1 := keep hb rp1
          replace rla := keep hb rla
          replace rlb := keep hb rlb
          replace rl13 := keep hb rl13
          replace hw := Below.after hw hb
          clear hb
          refine hK_ _ _ (rlb) ?_
          simp only [Act.put, List.getElem_toArray, List.getElem_cons_succ, List.getElem_cons_zero, List.setIfInBounds_toArray, List.set_cons_succ, List.set_cons_zero]
          clear hK_
          refine wpAnyH_take (i := 5) (v := ?v308) rfl (by kernel_rfl) (by kernel_rfl) (by kernel_rfl) (fun _ _ _ h => h) (Or.inl ⟨by rfl, ?y308⟩) (rlb) ?r308
          case y308 =>
            intro w_ hS_
            go_simp
            try with_reducible rfl
          simp only [Act.put, List.getElem_toArray, List.getElem_cons_succ, List.getElem_cons_zero, List.setIfInBounds_toArray, List.set_cons_succ, List.set_cons_zero]
          refine wpAnyH_done (by kernel_rfl) ?_ _
          refine NoPanic.normal ?_
          cases eqo
          · skip
            obtain ⟨hM0, hMn⟩ := h3_ (by first | rfl | trivial)
            have d0 : ((M : Int) == 0) = false := by simp; omega
            have d0d : decide ((M : Int) = 0) = false := by simp; omega
            have d1 : ((M : Int) == (l.length : Int)) = false := by simp; omega
            have d1d : decide ((M : Int) = (l.length : Int)) = false := by simp; omega
            have k3 := cell_of rp1 ((pl_at OD cr (M : Int) cn_ (.slice qo Q.length qc) hOD hcr 2).trans rfl)
            go_wp2_with (first | (refine wpList_load_part rfl 24 _ rfl (ga) 0 rfl 24 (irow .u8 LF) (0, 0) (irow .u8 LF) _ rla (all_rowe _) Tryd.underlying24 rfl (infok8 _ hLF) ?_) | (refine wpList_load_part rfl 24 _ rfl (gb) 0 rfl 24 (irow .u8 OD) (0, 0) (irow .u8 OD) _ rlb (all_rowe _) Tryd.underlying24 rfl (infok8 _ hOD) ?_) | (refine wpList_load_part rfl 24 _ rfl (gr) 0 rfl 24 (irow .u8 R) (0, 0) (irow .u8 R) _ rl13 (all_rowe _) Tryd.underlying24 rfl (infok8 _ hR) ?_) | fail)
            clear k3
            have hsr := hw.size
            refine (cB (by first | rfl | trivial) _ hw).mono ?_
            rintro e_ wm ⟨_, rfl, vs, vt, rfl, hT1, hT2, _, hb⟩
            replace rp0 := keep hb rp0
            replace rp1 := keep hb rp1
            replace rla := keep hb rla
            replace rlb := keep hb rlb
            replace rl13 := keep hb rl13
            replace hw := Below.after hw hb
            clear hb
            replace hT1 := hT1.down hsr
            replace hT2 := hT2.down hsr
            clear hsr
            go_wp2_with (first | (refine wpList_store_row rfl 24 _ _ rfl (wm.heap.size) (irow .u8 A2) rfl rfl 24 (irow .u8 (zr 32)) (hp2_0 wm _ _) (infok8 _ hA2) (((irow_size _ _).trans (zr_len 32)).trans ((irow_size _ _).trans hA2).symm) (irow_one8 _) ?_; rw [setRow_alloc_old _ _ _ _ (by simp), setRow_alloc_new _ _ _ _ _ _ (by simp)]) | (refine wpList_store_row rfl 24 _ _ rfl (wm.heap.size + 1) (irow .u8 B2) rfl rfl 24 (irow .u8 (zr 32)) (hp2_1 wm _ _) (infok8 _ hB2) (((irow_size _ _).trans (zr_len 32)).trans ((irow_size _ _).trans hB2).symm) (irow_one8 _) ?_; rw [setRow_alloc_new _ _ _ _ _ _ (by simp)]; refine wpList_stay ?_) | fail)
            unfold WpStay
            try simp only [Act.put]
            have rl16 : ((wm.alloc (.cells (irow .u8 A2) 24)).alloc (.cells (irow .u8 B2) 24)).heap[wm.heap.size]? = some (.cells (irow .u8 A2) 24 (0, 0)) := hp2_0 wm _ _
            have rl17 : ((wm.alloc (.cells (irow .u8 A2) 24)).alloc (.cells (irow .u8 B2) 24)).heap[wm.heap.size + 1]? = some (.cells (irow .u8 B2) 24 (0, 0)) := hp2_1 wm _ _
            have hb : Below wm.heap.size wm ((wm.alloc (.cells (irow .u8 A2) 24)).alloc (.cells (irow .u8 B2) 24)) := (((Below.refl _ _).alloc (Nat.le_refl _) _).alloc (by simp) _)
            generalize ((wm.alloc (.cells (irow .u8 A2) 24)).alloc (.cells (irow .u8 B2) 24)) = wn at *
            have lt_gm_0 := lt_of_row rp0
            have lt_gm_1 := lt_of_row rp1
            have lt_gm_2 := lt_of_row rla
            have lt_gm_3 := lt_of_row rlb
            have lt_gm_4 := lt_of_row rl13
            have sz_gm := hw.size
            replace rp0 := keep hb rp0
            replace rp1 := keep hb rp1
            replace rla := keep hb rla
            replace rlb := keep hb rlb
            replace rl13 := keep hb rl13
            replace hT1 := hT1.keep hb
            replace hT2 := hT2.keep hb
            replace hw := Below.after hw hb
            clear hb
            generalize wm.heap.size = gm at *
            clear wm
            go_wp2_with (at_builtin; refine wpList_append_T rfl (.tmp 127) (.tmp 128) rfl w.heap.size _ (S2) rfl hT1 _ (T2) rfl hT2 (by first | omega | (simp only [List.length_append]; omega)) hw.size ?_)
            intro va_ wz309 hST hG_
            replace rp0 := (hG_.block _ (lt_of_row rp0) (own_neT hT1 rp0 (by decide))).trans rp0
            replace rp1 := (hG_.block _ (lt_of_row rp1) (own_neT hT1 rp1 (by decide))).trans rp1
            replace rla := (hG_.block _ (lt_of_row rla) (own_neT hT1 rla (by decide))).trans rla
            replace rlb := (hG_.block _ (lt_of_row rlb) (own_neT hT1 rlb (by decide))).trans rlb
            replace rl13 := (hG_.block _ (lt_of_row rl13) (own_neT hT1 rl13 (by decide))).trans rl13
            replace rl16 := (hG_.block _ (lt_of_row rl16) (own_neT hT1 rl16 (by decide))).trans rl16
            replace rl17 := (hG_.block _ (lt_of_row rl17) (own_neT hT1 rl17 (by decide))).trans rl17
            replace hw := hw.grown hG_ hw.size (fun k e => (hT1.lt k e).1)
            clear hT1 hT2 hG_
            go_wp2_with (fail)
            have hsr := hw.size
            refine (cTx _ hw).mono ?_
            rintro e_ wt ⟨vx, rfl, hTX, hb⟩
            replace rp0 := keep hb rp0
            replace rp1 := keep hb rp1
            replace rla := keep hb rla
            replace rlb := keep hb rlb
            replace rl13 := keep hb rl13
            replace rl16 := keep hb rl16
            replace rl17 := keep hb rl17
            replace hST := hST.keep hb
            replace hw := Below.after hw hb
            clear hb
            replace hTX := hTX.down hsr
            clear hsr
            go_wp2_with (at_builtin; refine wpList_append_T rfl (.tmp 129) (.tmp 131) rfl w.heap.size _ (S2 ++ T2) rfl hST _ (TX) rfl hTX (by first | omega | (simp only [List.length_append]; omega)) hw.size ?_)
            intro va_ wz310 hTT hG_
            replace rp0 := (hG_.block _ (lt_of_row rp0) (own_neT hST rp0 (by decide))).trans rp0
            replace rp1 := (hG_.block _ (lt_of_row rp1) (own_neT hST rp1 (by decide))).trans rp1
            replace rla := (hG_.block _ (lt_of_row rla) (own_neT hST rla (by decide))).trans rla
            replace rlb := (hG_.block _ (lt_of_row rlb) (own_neT hST rlb (by decide))).trans rlb
            replace rl13 := (hG_.block _ (lt_of_row rl13) (own_neT hST rl13 (by decide))).trans rl13
            replace rl16 := (hG_.block _ (lt_of_row rl16) (own_neT hST rl16 (by decide))).trans rl16
            replace rl17 := (hG_.block _ (lt_of_row rl17) (own_neT hST rl17 (by decide))).trans rl17
            replace hw := hw.grown hG_ hw.size (fun k e => (hST.lt k e).1)
            clear hST hTX hG_
            replace hTT : OwnT wz310 w.heap.size va_ (S2 ++ T2 ++ TX) := by first | exact hTT | (rw [List.append_assoc]; exact hTT)
            go_wp2_with (fail)
            refine (cC (by first | rfl | trivial) _ hw hTT).mono ?_
            rintro e_ wo ⟨rfl, hb⟩
            replace rp0 := keep hb rp0
            replace rp1 := keep hb rp1
            replace rla := keep hb rla
            replace rlb := keep hb rlb
            replace rl13 := keep hb rl13
            replace rl16 := keep hb rl16
            replace rl17 := keep hb rl17
            replace hTT := hTT.keep hb
            replace hw := Below.after hw hb
            clear hb
            go_wp2_with (fail)
            go_meet
            case rel => exact ⟨rfl, rp0, rp1, rla, rlb, rl13, hw⟩
          · skip
            go_wp2_with (fail)
            go_meet
            case rel => exact ⟨rfl, rp0, rp1, rla, rlb, rl13, hw⟩
      case rest =>
        obtain ⟨rfl, rp0, rp1, rla, rlb, rl13, hw⟩ := hcut
        go_wp2_with (fail)
        rcases Nat.eq_zero_or_pos l.length with h0 | h0
        · have dn1 : ((l.length : Int) == 0) = true := by simp; exact List.eq_nil_of_length_eq_zero h0
          clear h0
          have hb : Below wc.heap.size wc wc.drew := below_drN (Below.refl _ _) 1
          replace rp0 := keep hb rp0
          replace rp1 := keep hb rp1
          replace rla := keep hb rla
          replace rlb := keep hb rlb
          replace rl13 := keep hb rl13
          replace hw := Below.after hw hb
          clear hb
          refine wp_region_noPanic ?_
          refine wp_region_held (S := fun W_ => W_.heap[gr]? = some (.cells (irow .u8 R) 24 (0, 0))) (by kernel_rfl) ?_
          change wpAnyH _ _ _ _ _ _ _ _ (World.drew _)
          generalize wc.drew = wd311 at *
          refine wpAnyH_take (i := 0) (v := ?v312) rfl (by kernel_rfl) (by kernel_rfl) (by kernel_rfl) (fun _ _ _ h => h) (Or.inl ⟨by rfl, ?y312⟩) (rl13) ?r312
          case y312 =>
            intro w_ hS_
            go_simp
            try with_reducible rfl
          simp only [Act.put, List.getElem_toArray, List.getElem_cons_zero, List.setIfInBounds_toArray, List.set_cons_succ, List.set_cons_zero]
          refine wpAnyH_take (i := 1) (v := ?v313) rfl (by kernel_rfl) (by kernel_rfl) (by kernel_rfl) (fun _ _ _ h => h) (Or.inl ⟨by rfl, ?y313⟩) (rl13) ?r313
          case y313 =>
            intro w_ hS_
            go_simp
            try with_reducible rfl
          simp only [Act.put, List.getElem_toArray, List.getElem_cons_succ, List.getElem_cons_zero, List.setIfInBounds_toArray, List.set_cons_succ, List.set_cons_zero]
          refine wpAnyH_take (i := 2) (v := ?v314) rfl (by kernel_rfl) (by kernel_rfl) (by kernel_rfl) (fun _ _ _ h => h) (Or.inl ⟨by rfl, ?y314⟩) (rl13) ?r314
          case y314 =>
            intro w_ hS_
            go_simp
            try with_reducible rfl
          simp only [Act.put, List.getElem_toArray, List.getElem_cons_succ, List.getElem_cons_zero, List.setIfInBounds_toArray, List.set_cons_succ, List.set_cons_zero]
          refine wpAnyH_take (i := 3) (v := undef) rfl (by kernel_rfl) (by kernel_rfl) (by kernel_rfl) (fun _ _ _ h => h) (Or.inr ⟨by rfl, rfl⟩) (rl13) ?_
          simp only [Act.put, List.getElem_toArray, List.getElem_cons_succ, List.getElem_cons_zero, List.setIfInBounds_toArray, List.set_cons_succ, List.set_cons_zero]
          refine wpAnyH_take (i := 4) (v := undef) rfl (by kernel_rfl) (by kernel_rfl) (by kernel_rfl) (fun _ _ _ h => h) (Or.inr ⟨by rfl, rfl⟩) (rl13) ?_
          simp only [Act.put, List.getElem_toArray, List.getElem_cons_succ, List.getElem_cons_zero, List.setIfInBounds_toArray, List.set_cons_succ, List.set_cons_zero]
          refine wpAnyH_take (i := 5) (v := undef) rfl (by kernel_rfl) (by kernel_rfl) (by kernel_rfl) (fun _ _ _ h => h) (Or.inr ⟨by rfl, rfl⟩) (rl13) ?_
          simp only [Act.put, List.getElem_toArray, List.getElem_cons_succ, List.getElem_cons_zero, List.setIfInBounds_toArray, List.set_cons_succ, List.set_cons_zero]
          refine wpAnyH_take (i := 6) (v := undef) rfl (by kernel_rfl) (by kernel_rfl) (by kernel_rfl) (fun _ _ _ h => h) (Or.inr ⟨by rfl, rfl⟩) (rl13) ?_
          simp only [Act.put, List.getElem_toArray, List.getElem_cons_succ, List.getElem_cons_zero, List.setIfInBounds_toArray, List.set_cons_succ, List.set_cons_zero]
          refine wpAnyH_take (i := 7) (v := undef) rfl (by kernel_rfl) (by kernel_rfl) (by kernel_rfl) (fun _ _ _ h => h) (Or.inr ⟨by rfl, rfl⟩) (rl13) ?_
          simp only [Act.put, List.getElem_toArray, List.getElem_cons_succ, List.getElem_cons_zero, List.setIfInBounds_toArray, List.set_cons_succ, List.set_cons_zero]
          refine wpAnyH_take (i := 8) (v := undef) rfl (by kernel_rfl) (by kernel_rfl) (by kernel_rfl) (fun _ _ _ h => h) (Or.inr ⟨by rfl, rfl⟩) (rl13) ?_
          simp only [Act.put, List.getElem_toArray, List.getElem_cons_succ, List.getElem_cons_zero, List.setIfInBounds_toArray, List.set_cons_succ, List.set_cons_zero]
          refine wpAnyH_take (i := 9) (v := undef) rfl (by kernel_rfl) (by kernel_rfl) (by kernel_rfl) (fun _ _ _ h => h) (Or.inr ⟨by rfl, rfl⟩) (rl13) ?_
          simp only [Act.put, List.getElem_toArray, List.getElem_cons_succ, List.getElem_cons_zero, List.setIfInBounds_toArray, List.set_cons_succ, List.set_cons_zero]
          refine wpAnyH_take (i := 10) (v := undef) rfl (by kernel_rfl) (by kernel_rfl) (by kernel_rfl) (fun _ _ _ h => h) (Or.inr ⟨by rfl, rfl⟩) (rl13) ?_
          simp only [Act.put, List.getElem_toArray, List.getElem_cons_succ, List.getElem_cons_zero, List.setIfInBounds_toArray, List.set_cons_succ, List.set_cons_zero]
          refine wpAnyH_take (i := 11) (v := undef) rfl (by kernel_rfl) (by kernel_rfl) (by kernel_rfl) (fun _ _ _ h => h) (Or.inr ⟨by rfl, rfl⟩) (rl13) ?_
          simp only [Act.put, List.getElem_toArray, List.getElem_cons_succ, List.getElem_cons_zero, List.setIfInBounds_toArray, List.set_cons_succ, List.set_cons_zero]
          refine wpAnyH_take (i := 12) (v := ?v324) rfl (by kernel_rfl) (by kernel_rfl) (by kernel_rfl) (fun _ _ _ h => h) (Or.inl ⟨by rfl, ?y324⟩) (rl13) ?r324
          case y324 =>
            intro w_ hS_
            go_simp
            try with_reducible rfl
          simp only [Act.put, List.getElem_toArray, List.getElem_cons_succ, List.getElem_cons_zero, List.setIfInBounds_toArray, List.set_cons_succ, List.set_cons_zero]
          refine wpAnyH_take (i := 13) (v := ?v325) rfl (by kernel_rfl) (by kernel_rfl) (by kernel_rfl) (fun _ _ _ h => h) (Or.inl ⟨by rfl, ?y325⟩) (rl13) ?r325
          case y325 =>
            intro w_ hS_
            go_simp
            try with_reducible rfl
          simp only [Act.put, List.getElem_toArray, List.getElem_cons_succ, List.getElem_cons_zero, List.setIfInBounds_toArray, List.set_cons_succ, List.set_cons_zero]
          refine wpAnyH_done (by kernel_rfl) ?_ _
          refine NoPanic.normal ?_
          go_wp2_with (fail)
          go_ret
          exact ⟨rfl, hw⟩
        · have dn1 : ((l.length : Int) == 0) = false := by simp; intro h; rw [h] at h0; simp at h0
          obtain ⟨_, _, e, _, _, _, _, hp⟩ := id hL
          injection e with e1_ e2_ e3_
          subst e1_ e3_
          clear e2_
          obtain ⟨pg, po_, pcs, pt, pf, rfl, hpg, hx⟩ := hp 0 h0
          clear hp
          rw [Nat.zero_mul, Nat.add_zero] at hx
          have jm : (0 : Int) < (l.length : Int) := by omega
          have hEl := (hL.ok.at h0).1
          have cI := cI2 h0
          have cP_ := cPa h0
          generalize l.getD 0 [] = E at *
          have rq := keep hw hpg
          have hb : Below wc.heap.size wc wc.drew := below_drN (Below.refl _ _) 1
          replace rp0 := keep hb rp0
          replace rp1 := keep hb rp1
          replace rla := keep hb rla
          replace rlb := keep hb rlb
          replace rl13 := keep hb rl13
          replace rq := keep hb rq
          replace hw := Below.after hw hb
          clear hb
          refine wp_region_noPanic ?_
          refine wp_region_held (S := fun W_ => W_.heap[gr]? = some (.cells (irow .u8 R) 24 (0, 0)) ∧ W_.heap[pg]? = some (.cells pcs pt pf)) (by kernel_rfl) ?_
          change wpAnyH _ _ _ _ _ _ _ _ (World.drew _)
          generalize wc.drew = wd326 at *
          refine wpAnyH_take (i := 0) (v := ?v327) rfl (by kernel_rfl) (by kernel_rfl) (by kernel_rfl) (fun _ _ _ h => h) (Or.inl ⟨by rfl, ?y327⟩) (⟨rl13, rq⟩) ?r327
          case y327 =>
            intro w_ hS_
            go_simp
            try with_reducible rfl
          simp only [Act.put, List.getElem_toArray, List.getElem_cons_zero, List.setIfInBounds_toArray, List.set_cons_succ, List.set_cons_zero]
          refine wpAnyH_take (i := 1) (v := ?v328) rfl (by kernel_rfl) (by kernel_rfl) (by kernel_rfl) (fun _ _ _ h => h) (Or.inl ⟨by rfl, ?y328⟩) (⟨rl13, rq⟩) ?r328
          case y328 =>
            intro w_ hS_
            go_simp
            try with_reducible rfl
          simp only [Act.put, List.getElem_toArray, List.getElem_cons_succ, List.getElem_cons_zero, List.setIfInBounds_toArray, List.set_cons_succ, List.set_cons_zero]
          refine wpAnyH_take (i := 2) (v := ?v329) rfl (by kernel_rfl) (by kernel_rfl) (by kernel_rfl) (fun _ _ _ h => h) (Or.inl ⟨by rfl, ?y329⟩) (⟨rl13, rq⟩) ?r329
          case y329 =>
            intro w_ hS_
            go_simp
            try with_reducible rfl
          simp only [Act.put, List.getElem_toArray, List.getElem_cons_succ, List.getElem_cons_zero, List.setIfInBounds_toArray, List.set_cons_succ, List.set_cons_zero]
          refine wpAnyH_take (i := 3) (v := .agg (irow .u8 R)) rfl (by kernel_rfl) (by kernel_rfl) (by kernel_rfl) (fun _ _ _ h => h) (Or.inl ⟨by rfl, ?y330⟩) (⟨rl13, rq⟩) ?r330
          case y330 =>
            intro w_ hS_
            simp only [List.getElem_toArray, List.getElem_cons_succ, List.getElem_cons_zero]
            exact e_load_part 24 _ (by rfl) (gr) 0 (by rfl) 24 (irow .u8 R) (0, 0) (irow .u8 R) _ (hS_.1) (all_rowe _) Tryd.underlying24 rfl (infok8 _ hR)
          simp only [Act.put, List.getElem_toArray, List.getElem_cons_succ, List.getElem_cons_zero, List.setIfInBounds_toArray, List.set_cons_succ, List.set_cons_zero]
          refine wpAnyH_take (i := 4) (v := ?v331) rfl (by kernel_rfl) (by kernel_rfl) (by kernel_rfl) (fun _ _ _ h => h) (Or.inl ⟨by rfl, ?y331⟩) (⟨rl13, rq⟩) ?r331
          case y331 =>
            intro w_ hS_
            go_simp
            try with_reducible rfl
          simp only [Act.put, List.getElem_toArray, List.getElem_cons_succ, List.getElem_cons_zero, List.setIfInBounds_toArray, List.set_cons_succ, List.set_cons_zero]
          refine wpAnyH_take (i := 5) (v := ?v332) rfl (by kernel_rfl) (by kernel_rfl) (by kernel_rfl) (fun _ _ _ h => h) (Or.inl ⟨by rfl, ?y332⟩) (⟨rl13, rq⟩) ?r332
          case y332 =>
            intro w_ hS_
            go_simp
            try with_reducible rfl
          simp only [Act.put, List.getElem_toArray, List.getElem_cons_succ, List.getElem_cons_zero, List.setIfInBounds_toArray, List.set_cons_succ, List.set_cons_zero]
          refine wpAnyH_take (i := 6) (v := ?v333) rfl (by kernel_rfl) (by kernel_rfl) (by kernel_rfl) (fun _ _ _ h => h) (Or.inl ⟨by rfl, ?y333⟩) (⟨rl13, rq⟩) ?r333
          case y333 =>
            intro w_ hS_
            go_simp
            try with_reducible rfl
          simp only [Act.put, List.getElem_toArray, List.getElem_cons_succ, List.getElem_cons_zero, List.setIfInBounds_toArray, List.set_cons_succ, List.set_cons_zero]
          refine wpAnyH_take (i := 7) (v := .agg (irow .u8 E)) rfl (by kernel_rfl) (by kernel_rfl) (by kernel_rfl) (fun _ _ _ h => h) (Or.inl ⟨by rfl, ?y334⟩) (⟨rl13, rq⟩) ?r334
          case y334 =>
            intro w_ hS_
            simp only [List.getElem_toArray, List.getElem_cons_succ, List.getElem_cons_zero]
            exact e_load_part 24 _ (by rfl) pg po_ (by rfl) pt pcs pf (irow .u8 E) _ (hS_.2) hx Tryd.underlying24 rfl (infok8 _ hEl)
          simp only [Act.put, List.getElem_toArray, List.getElem_cons_succ, List.getElem_cons_zero, List.setIfInBounds_toArray, List.set_cons_succ, List.set_cons_zero]
          refine wpAnyH_take (i := 8) (v := ?v335) rfl (by kernel_rfl) (by kernel_rfl) (by kernel_rfl) (fun _ _ _ h => h) (Or.inl ⟨by rfl, ?y335⟩) (⟨rl13, rq⟩) ?r335
          case y335 =>
            intro w_ hS_
            go_simp
            try with_reducible rfl
          simp only [Act.put, List.getElem_toArray, List.getElem_cons_succ, List.getElem_cons_zero, List.setIfInBounds_toArray, List.set_cons_succ, List.set_cons_zero]
          refine eH_one (k := 9) (fuel := 4) (by kernel_rfl) rfl (by kernel_rfl) (fun K_ hK_ => ?_)
          refine wp_call_ex (f := 40) (by kernel_rfl) (cP_ _ hw) (fun v_ wq336 hX_ => ?_)
          obtain ⟨hP0, hb⟩ := hX_
          replace rp0 := keep hb rp0
          replace rp1 := keep hb rp1
          replace rla := keep hb rla
          replace rlb := keep hb rlb
          replace rl13 := keep hb rl13
          replace rq := keep hb rq
          replace hw := Below.after hw hb
          clear hb
          refine hK_ _ _ (⟨rl13, rq⟩) ?_
          simp only [Act.put, List.getElem_toArray, List.getElem_cons_succ, List.getElem_cons_zero, List.setIfInBounds_toArray, List.set_cons_succ, List.set_cons_zero]
          clear hK_
          replace hP0 := hP0.ksl hP0o (by omega)
          refine eH_one (k := 10) (fuel := 3) (by kernel_rfl) rfl (by kernel_rfl) (fun K_ hK_ => ?_)
          refine wp_call_ex (f := 29) (by kernel_rfl) (ex1e (cI _ hw hP0)) (fun v_ wq337 hX_ => ?_)
          obtain ⟨rfl, hb⟩ := hX_
          replace rp0 := keep hb rp0
          replace rp1 := keep hb rp1
          replace rla := keep hb rla
          replace rlb := keep hb rlb
          replace rl13 := keep hb rl13
          replace rq := keep hb rq
          replace hP0 := hP0.keep hb
          replace hw := Below.after hw hb
          clear hb
          refine hK_ _ _ (⟨rl13, rq⟩) ?_
          simp only [Act.put, List.getElem_toArray, List.getElem_cons_succ, List.getElem_cons_zero, List.setIfInBounds_toArray, List.set_cons_succ, List.set_cons_zero]
          clear hK_
          refine wpAnyH_take (i := 11) (v := ?v338) rfl (by kernel_rfl) (by kernel_rfl) (by kernel_rfl) (fun _ _ _ h => h) (Or.inl ⟨by rfl, ?y338⟩) (⟨rl13, rq⟩) ?r338
          case y338 =>
            intro w_ hS_
            go_simp
            try with_reducible rfl
          simp only [Act.put, List.getElem_toArray, List.getElem_cons_succ, List.getElem_cons_zero, List.setIfInBounds_toArray, List.set_cons_succ, List.set_cons_zero]
          refine wpAnyH_take (i := 12) (v := ?v339) rfl (by kernel_rfl) (by kernel_rfl) (by kernel_rfl) (fun _ _ _ h => h) (Or.inl ⟨by rfl, ?y339⟩) (⟨rl13, rq⟩) ?r339
          case y339 =>
            intro w_ hS_
            go_simp
            try with_reducible rfl
          simp only [Act.put, List.getElem_toArray, List.getElem_cons_succ, List.getElem_cons_zero, List.setIfInBounds_toArray, List.set_cons_succ, List.set_cons_zero]
          refine wpAnyH_take (i := 13) (v := ?v340) rfl (by kernel_rfl) (by kernel_rfl) (by kernel_rfl) (fun _ _ _ h => h) (Or.inl ⟨by rfl, ?y340⟩) (⟨rl13, rq⟩) ?r340
          case y340 =>
            intro w_ hS_
            go_simp
            try with_reducible rfl
          simp only [Act.put, List.getElem_toArray, List.getElem_cons_succ, List.getElem_cons_zero, List.setIfInBounds_toArray, List.set_cons_succ, List.set_cons_zero]
          refine wpAnyH_done (by kernel_rfl) ?_ _
          refine NoPanic.normal ?_
          go_wp2_with (fail)
          go_ret
          exact ⟨rfl, hw⟩
end Go.Proofs.YtgfeacnhdlgpoaaDoor
