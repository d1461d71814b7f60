import Derived.Test.YtjofbnilhkmpeaaDoorProg
import Derived.WalkKit
import Derived.WalkSpells
import Derived.WalkLawsBesides
import Derived.Lib.QuietBelow
import Derived.BigQuiet
import Derived.OrdersHeld
import Derived.Deep.RegionHeld3
import Derived.OwnWalk
import Derived.Test.YtjofbnilhkmpeaaDoorKa
import Derived.Test.YtjofbnilhkmpeaaDoorSpft
namespace Go.Proofs.YtjofbnilhkmpeaaDoor
set_option maxRecDepth 100000
open Go Go.RowKit Go.Sort Go.ChangeMaps Go.MapKept
attribute [local go_sem] setCell_drewN alloc_drewN

set_option maxRecDepth 100000 in
theorem infoLb : ∃ i, Tryd.prog.info? 77 = some i ∧ i.zero = some (.agg (chc (zr 32) 0)) ∧ i.size = 33 ∧ i.bytes = 36 := ⟨_, rfl, rfl, rfl, rfl⟩
theorem run_bslL (h : List Int) (hh : h.length = 32) (n : Int) (W : World) : (Instr.buildSlice 60 1 #[(0, .agg (chc h n))]).run Tryd.prog W = .ok (.slice (some ⟨W.heap.size, 0, none⟩) 1 1) (W.alloc (.cells (chc h n) 77)) := by
  obtain ⟨x0, x1, x2, x3, x4, x5, x6, x7, x8, x9, x10, x11, x12, x13, x14, x15, x16, x17, x18, x19, x20, x21, x22, x23, x24, x25, x26, x27, x28, x29, x30, x31, rfl⟩ := len32 h hh
  kernel_rfl
theorem run_bsl_op {P : Program} {o : Oper} {a : Act} {w w' : World} {v u : Value} (t : TypeId) (x : Operand) (ho : o.op = .buildSlice t 1 #[(0, x)]) (hx : a.eval x = u) (hr : (Instr.buildSlice t 1 #[(0, u)]).run P w = .ok v w') : (execOp a.eval o).run P w = .ok (.value v) w' := by
  simp [execOp, ho, hx, hr, Result.andThen]
/-- A label laid behind a list of one's own. -/
theorem wp_append_L {w : World} {o : Oper} {a : Act} {K : Act → World → Prop} {Q : Exit → Act → World → Prop} (s x : Operand) (ho : o.op = .call { callee := .builtin .append, args := #[s, x], argTypes := #[60, 60] })
    (base : Nat) (v : Value) (l : List Sr) (hs : a.eval s = v) (hI : w.ownsRow base 77 33 v l.length (lbs l)) (g : Nat) (q : Sr) (hq : q.ok) (hx : a.eval x = .slice (some ⟨g, 0, none⟩) 1 1) (rg : w.heap[g]? = some (.cells (chc q.h q.n) 77 (0, 0))) (hlen : l.length ≤ 1000000) (hbase : base ≤ w.heap.size)
    (h : ∀ v' w', w'.ownsRow base 77 33 v' (l ++ [q]).length (lbs (l ++ [q])) → w.grownBy w' v.ownBlock → Nx w v v' → K (a.put o.dst v') w') : o.wp Tryd.prog a w K Q := by
  obtain ⟨i0, hi, hz0, hz1, hz2⟩ := infoLb
  refine wp_append_nx s x 60 ho base 77 i0 (.agg (chc (zr 32) 0)) 33 36 Tryd.underlying60 hi hz0 hz1 hz2 rfl (by decide) v l.length (lbs l) hs hI ⟨g, 0, none⟩ 1 1 (lbl q) hx (by rw [lbl_len hq]) ?_ (lbl_one _) (by unfold maxLen; omega) (by omega) hbase (fun v' w' h1 h2 h3 => h v' w' ?_ h2 h3)
  · intro j x hx
    rw [addr_add, cell_of_row _ _ _ _ _ _ rg, Nat.zero_add]
    simpa [lbl] using hx
  · rw [lbs_app, lbs_one, List.length_append, List.length_singleton]
    exact h1
theorem ents_snoc (l : List Sr) (s : Sr) : ents (l ++ [s]) = ents l ++ [(s.lb, .agg (irow .u8 s.m))] := by rw [ents, List.map_append]; rfl
theorem grown_fr {w w' : World} {v : Value} {g b : Nat} (h : w.grownBy w' v.ownBlock) : Fr (own3 g b v) w w' := ⟨h.os, h.tape, h.output, h.size, fun k hk hx => h.block k hk (fun e => hx (.inr (.inr e.symm)))⟩
theorem own3_new {w : World} {g b : Nat} {v v' : Value} (h : Nx w v v') : ∀ k, k < w.heap.size → own3 g b v' k → own3 g b v k := by
  rintro k hk (e | e | e)
  · exact .inl e
  · exact .inr (.inl e)
  · rcases h with h | ⟨j, h, hj⟩
    · exact .inr (.inr (h ▸ e))
    · rw [h] at e; cases e; omega
/-- Between the store of the list and that of the map: a store that has one label more than its map. -/
structure Mid (W : World) (base g b : Nat) (v : Value) (most : Int) (l : List Sr) (s : Sr) : Prop where
  row : W.heap[g]? = some (.cells #[.int .i64 most, v, .map (some b)] 63 (0, 0))
  own : W.ownsRow base 77 33 v (l ++ [s]).length (lbs (l ++ [s]))
  map : MapIs W b lenc (ents l)
  ok : AllOk (l ++ [s])
  nod : ((l ++ [s]).map Sr.lb).Nodup
  most0 : 0 ≤ most ∧ most ≤ 2000
  len : ((l ++ [s]).length : Int) ≤ most
  bg : base ≤ g
  bb : base ≤ b
  ne : v.ownBlock ≠ some g
theorem Mid.move {W V : World} {base g b : Nat} {v : Value} {most : Int} {l : List Sr} {s : Sr} (h : Mid W base g b v most l s) (hm : ∀ k, own3 g b v k → V.heap[k]? = W.heap[k]?) : Mid V base g b v most l s :=
  ⟨(hm g (.inl rfl)).trans h.row, own_move h.own (fun k e => hm k (.inr (.inr e))), h.map.row (fun _ ho => (hm b (.inr (.inl rfl))).trans ho), h.ok, h.nod, h.most0, h.len, h.bg, h.bb, h.ne⟩
theorem Mid.lt {W : World} {base g b : Nat} {v : Value} {most : Int} {l : List Sr} {s : Sr} (h : Mid W base g b v most l s) : ∀ k, own3 g b v k → k < W.heap.size := by
  rintro k (rfl | rfl | e)
  · exact lt_of_row h.row
  · exact h.map.lt
  · exact (h.own.lt k e).2
theorem Mid.keep {W V : World} {base g b : Nat} {v : Value} {most : Int} {l : List Sr} {s : Sr} (h : Mid W base g b v most l s) (hb : Below W.heap.size W V) : Mid V base g b v most l s := h.move (fun k e => hb.block k (h.lt k e))
theorem Mid.c2 {W : World} {base g b : Nat} {v : Value} {most : Int} {l : List Sr} {s : Sr} (h : Mid W base g b v most l s) : W.cell? ⟨g, 2, none⟩ = some (.map (some b)) := by rw [cell_of_row W g 2 _ _ _ h.row]; rfl
theorem Mid.put {W : World} {base g b : Nat} {v : Value} {most : Int} {l : List Sr} {s : Sr} (h : Mid W base g b v most l s) : ∃ o, (Instr.mapUpdate 61 (.map (some b)) (lenc s.lb) (.agg (irow .u8 s.m))).run Tryd.prog W = .ok () (setBlock W b o) ∧ Sto (setBlock W b o) base g b v most (l ++ [s]) := by
  have hokl : AllOk l := fun x hx => h.ok x (by simp [hx])
  have hsk : s.ok := h.ok s (by simp)
  have hnk : s.lb ∉ (ents l).map (·.1) := by
    rw [ents_keys]
    have := h.nod
    rw [List.map_append, List.nodup_append] at this
    intro hm
    exact this.2.2 _ hm _ (by simp) rfl
  obtain ⟨o, hr, hm⟩ := run_updm kLb Tryd.underlying61 W b (ents l) h.map (ents_ok hokl) s.lb hsk.1 (.agg (irow .u8 s.m)) hnk
  have hbg : b ≠ g := by
    obtain ⟨es, c, h1, _⟩ := h.map
    intro e; subst e
    have := h.row
    rw [h1] at this; cases this
  have hbv : v.ownBlock ≠ some b := by
    obtain ⟨es, c, h1, _⟩ := h.map
    intro e
    rcases h.own.2 with ⟨rfl, _⟩ | ⟨g1, cap, cur, rfl, hb, hg, _⟩
    · cases e
    · cases e; rw [h1] at hg; cases hg
  have hne : ∀ k, k ≠ b → (setBlock W b o).heap[k]? = W.heap[k]? := fun k hk => by
    simp only [setBlock]
    exact Array.getElem?_setIfInBounds_ne (fun e => hk e.symm)
  refine ⟨o, hr, ⟨(hne g hbg.symm).trans h.row, own_move h.own (fun k e => hne k (fun e2 => hbv (e2 ▸ e))), ents_snoc l s ▸ hm, h.ok, h.nod, h.most0, h.len, h.bg, h.bb, h.ne⟩⟩
/-- The list with its new label, stored. -/
theorem mid_of {W : World} {base g b : Nat} {v v' : Value} {most : Int} {l : List Sr} {s : Sr} (row : W.heap[g]? = some (.cells #[.int .i64 most, v, .map (some b)] 63 (0, 0))) (own : W.ownsRow base 77 33 v' (l ++ [s]).length (lbs (l ++ [s]))) (map : MapIs W b lenc (ents l))
    (ok : AllOk (l ++ [s])) (nod : ((l ++ [s]).map Sr.lb).Nodup) (most0 : 0 ≤ most ∧ most ≤ 2000) (len : ((l ++ [s]).length : Int) ≤ most) (bg : base ≤ g) (bb : base ≤ b) (ne : v'.ownBlock ≠ some g) : Mid (W.setCell ⟨g, 1, none⟩ v') base g b v' most l s := by
  refine ⟨?_, own_move own (fun k e => ?_), map.row (fun o ho => ?_), ok, nod, most0, len, bg, bb, ne⟩
  · rw [heap_setCell_same W g 1 _ _ _ row]; rfl
  · exact heap_setCell_other _ _ _ _ (fun e2 => ne (by rw [e]; exact congrArg some e2))
  · rw [← ho]
    refine heap_setCell_other _ _ _ _ (fun e2 => ?_)
    obtain ⟨es, c, h1, _⟩ := map
    rw [e2] at h1
    have := row
    rw [h1] at this; cases this
theorem sb_other {W : World} {b k : Nat} {o : Obj} (h : k ≠ b) : (setBlock W b o).heap[k]? = W.heap[k]? := by
  simp only [setBlock]
  exact Array.getElem?_setIfInBounds_ne (fun e => h e.symm)
/-- What Put answers. -/
def pe (l q : List Sr) (most : Int) : Int := if mts l q = true then 121 else if most - l.length < q.length then 120 else 0
def pl (l q : List Sr) (most : Int) : List Sr := if pe l q most = 0 then l ++ q else l
set_option maxRecDepth 100000 in
set_option maxHeartbeats 4000000 in
theorem a_Put_go (base g b : Nat) (v : Value) (most : Int) (l : List Sr) (q : List Sr) (u : Value) (w : World) (hS : Sto w base g b v most l) (hbs : base ≤ w.heap.size) (hq : ∀ V, Fr (own3 g b v) w V → SpL V u q) (hm : mts l q = false) (hl : (l.length : Int) + q.length ≤ most) : Calls Tryd.prog 34 #[.pointer (some ⟨g, 0, none⟩), u] w fun e w' => ∃ v', e = .returned (.int .i64 0) ∧ Sto w' base g b v' most (l ++ q) ∧ Fr (own3 g b v) w w' ∧ Nx w v v' := by
  have hq0 := hq w (Fr.refl _ _)
  have hqo := hq0.ok
  have hql := hq0.len
  have hm0 := hS.most0
  have hlo7 : ∀ k, own3 g b v k → k < w.heap.size := fun k hk => (hS.low k hk).2
  obtain ⟨ao, cap, rfl⟩ := hq0.form
  have cM := a_meets base g b v most l q _ w hS hq0
  rw [hm] at cM
  go_enter Tryd.func34, Tryd.ntmps34
  go_wp2_with (fail)
  refine cM.mono ?_
  rintro e_ w1 ⟨rfl, hb⟩
  replace hS := hS.keep hb
  have hf : Fr (own3 g b v) w w1 := Fr.of hb
  clear hb cM
  go_wp2_with (fail)
  refine (a_Room base g b v most l w1 hS).mono ?_
  rintro e_ w2 ⟨rfl, hb⟩
  replace hS := hS.keep hb
  replace hf := hf.trans (Fr.of hb)
  clear hb
  have hd1 : decide ((q.length : Int) > most - l.length) = false := by simp; omega
  go_wp2_with (fail)
  go_loopw [18] (fun i wr => ∃ (k : Nat) (vr : Value), k ≤ q.length ∧ i = .int .i64 k ∧ Sto wr base g b vr most (l ++ q.take k) ∧ Fr (own3 g b v) w wr ∧ Nx w v vr) (fun i _ => q.length - (intOf i).toNat)
  case atStart => exact ⟨0, v, by omega, rfl, by simpa using hS, hf, Nx.refl _ _⟩
  case round =>
    clear hS hf
    obtain ⟨k, vr, hk, rfl, hS, hf, hnv⟩ := hrel
    by_cases hlt : k < q.length
    · have hd : decide ((k : Int) < (q.length : Int)) = true := by simp; omega
      obtain ⟨bq, off, rfl, hbq, hr⟩ := (hq wr hf).at hlt
      have hko := hqo.at hlt
      have hk1 : 0 ≤ (k : Int) ∧ (k : Int) < (q.length : Int) := by omega
      have hl6 : (l ++ q.take k).length ≤ 1000000 := by have := hS.len; omega
      have ndk : Hid (((l ++ q.take (k + 1)).map Sr.lb).Nodup) := hide (by
        have := mts_false.1 hm
        rw [← List.take_append_drop (k + 1) q, ← List.append_assoc, List.map_append, List.nodup_append] at this
        exact this.1)
      have lnk : Hid (((l ++ q.take (k + 1)).length : Int) ≤ most) := hide (by rw [List.length_append, List.length_take]; omega)
      have sw := hf.size
      have hlg : g < wr.heap.size := lt_of_row hS.row
      have hlor : ∀ k, own3 g b vr k → k < wr.heap.size := fun k hk => (hS.low k hk).2
      have z_ := hp1_0 wr (.cells (srow zsr) 52)
      go_wp2_with (first | (refine wpList_load_mid rfl 52 _ rfl bq (off + k * 65) rfl (srl (gs q k)) _ hr Tryd.underlying52 rfl (infoSl hko) ?_) | (refine wpList_alloc rfl 52 rfl (srow zsr) zsp ?_) | (refine wpList_store_row rfl 52 _ _ rfl (wr.heap.size) (srow (gs q k)) rfl rfl 52 _ z_ (infoS hko) (by rw [srow_size zsr_ok, srow_size hko]) (srow_one _) ?_; refine wpList_stay ?_) | fail)
      unfold WpStay
      try simp only [Act.put, List.setIfInBounds_toArray, List.set_cons_succ, List.set_cons_zero]
      have R7 := setRow_heap (wr.alloc (.cells (srow zsr) 52)) wr.heap.size _ (srow (gs q k)) _ _ z_
      have hb_ : Below wr.heap.size wr ((wr.alloc (.cells (srow zsr) 52)).setRow wr.heap.size (srow (gs q k))) := below_setRow ((Below.refl _ _).alloc (Nat.le_refl _) _) (Nat.le_refl _) _
      have sz_g7 := hb_.size
      replace hS := hS.keep hb_
      replace hf := hf.trans (Fr.of hb_)
      clear hb_ z_
      generalize ((wr.alloc (.cells (srow zsr) 52)).setRow wr.heap.size (srow (gs q k))) = w1 at *
      generalize wr.heap.size = g7 at *
      go_wp2_with (first | (refine wpList_load_want rfl 52 _ rfl (g7) rfl 52 (srow (gs q k)) (0, 0) _ R7 Tryd.underlying52 rfl (infoS hko) ?_) | fail)
      refine (a_labelOf (gs q k) hko w1).mono ?_
      rintro e_ w2 ⟨rfl, hb⟩
      replace R7 := keep hb R7
      replace hS := hS.keep hb
      replace hf := hf.trans (Fr.of hb)
      have sz2 := hb.size
      clear hb
      have z_ := hp1_0 w2 (.cells (chc (zr 32) 0) 77)
      go_wp2_with (first | (refine wpList_alloc rfl 77 rfl (chc (zr 32) 0) zlb ?_) | (refine wpList_store_row rfl 77 _ _ rfl (w2.heap.size) (chc (gs q k).h (gs q k).n) rfl rfl 77 _ z_ (infoL _ hko.1 _) (by rw [chc_size _ (zr_len 32), chc_size _ hko.1]) (chc_one _ _) ?_; refine wpList_stay ?_) | fail)
      unfold WpStay
      try simp only [Act.put, List.setIfInBounds_toArray, List.set_cons_succ, List.set_cons_zero]
      have R8 := setRow_heap (w2.alloc (.cells (chc (zr 32) 0) 77)) w2.heap.size _ (chc (gs q k).h (gs q k).n) _ _ z_
      have hb_ : Below w2.heap.size w2 ((w2.alloc (.cells (chc (zr 32) 0) 77)).setRow w2.heap.size (chc (gs q k).h (gs q k).n)) := below_setRow ((Below.refl _ _).alloc (Nat.le_refl _) _) (Nat.le_refl _) _
      have sz_g8 := hb_.size
      have lt_R7_g8 := lt_of_row R7
      replace R7 := keep hb_ R7
      replace hS := hS.keep hb_
      replace hf := hf.trans (Fr.of hb_)
      clear hb_ z_
      generalize ((w2.alloc (.cells (chc (zr 32) 0) 77)).setRow w2.heap.size (chc (gs q k).h (gs q k).n)) = w3 at *
      generalize w2.heap.size = g8 at *
      go_wp2_with (fail)
      have hbd : Below w3.heap.size w3 w3.drew := below_drN (Below.refl _ _) 1
      replace R7 := keep hbd R7
      replace R8 := keep hbd R8
      replace hS := hS.keep hbd
      replace hf := hf.trans (Fr.of hbd)
      clear hbd
      have hc1 := hS.c1
      refine wp_region_noPanic ?_
      refine wp_region_last 10 _ rfl rfl rfl (by kernel_rfl) (by kernel_rfl) (by kernel_rfl) ?_
      refine wpAny_of_held (S := fun W => W.cell? ⟨g, 1, none⟩ = some vr ∧ W.heap[g8]? = some (.cells (chc (gs q k).h (gs q k).n) 77 (0, 0))) _ _ _ _ ?_
      dsimp only [List.set, idle]
      change wpAnyH _ _ _ _ _ _ _ _ (World.drew _)
      generalize w3.drew = w4 at *
      refine wpAnyH_take (i := 0) (v := ?v1) rfl (by kernel_rfl) (by kernel_rfl) (by kernel_rfl) (fun _ _ _ h => h) (Or.inl ⟨by rfl, ?y1⟩) ⟨hc1, R8⟩ ?r1
      case y1 =>
        intro w_ hS_
        go_simp
        try with_reducible rfl
      simp only [Act.put, List.getElem_toArray, List.getElem_cons_zero, List.setIfInBounds_toArray, List.set_cons_succ, List.set_cons_zero]
      refine wpAnyH_take (i := 1) (v := ?v2) rfl (by kernel_rfl) (by kernel_rfl) (by kernel_rfl) (fun _ _ _ h => h) (Or.inl ⟨by rfl, ?y2⟩) ⟨hc1, R8⟩ ?r2
      case y2 =>
        intro w_ hS_
        go_simp
        try with_reducible rfl
      simp only [Act.put, List.getElem_toArray, List.getElem_cons_succ, List.getElem_cons_zero, List.setIfInBounds_toArray, List.set_cons_succ, List.set_cons_zero]
      refine wpAnyH_take (i := 2) (v := ?v3) rfl (by kernel_rfl) (by kernel_rfl) (by kernel_rfl) (fun _ _ _ h => h) (Or.inl ⟨by rfl, ?y3⟩) ⟨hc1, R8⟩ ?r3
      case y3 =>
        intro w_ hS_
        go_simp
        try with_reducible rfl
      simp only [Act.put, List.getElem_toArray, List.getElem_cons_succ, List.getElem_cons_zero, List.setIfInBounds_toArray, List.set_cons_succ, List.set_cons_zero]
      refine wpAnyH_take (i := 3) (v := ?v4) rfl (by kernel_rfl) (by kernel_rfl) (by kernel_rfl) (fun _ _ _ h => h) (Or.inl ⟨by rfl, ?y4⟩) ⟨hc1, R8⟩ ?r4
      case y4 =>
        intro w_ hS_
        go_simp
        try with_reducible rfl
      simp only [Act.put, List.getElem_toArray, List.getElem_cons_succ, List.getElem_cons_zero, List.setIfInBounds_toArray, List.set_cons_succ, List.set_cons_zero]
      refine wpAnyH_take (i := 4) (v := vr) rfl (by kernel_rfl) (by kernel_rfl) (by kernel_rfl) (fun _ _ _ h => h) (Or.inl ⟨by rfl, ?y5⟩) ⟨hc1, R8⟩ ?r5
      case y5 =>
        intro w_ hS_
        have c_ := hS_.1
        go_simp
        try with_reducible rfl
      simp only [Act.put, List.getElem_toArray, List.getElem_cons_succ, List.getElem_cons_zero, List.setIfInBounds_toArray, List.set_cons_succ, List.set_cons_zero]
      refine wpAnyH_take (i := 5) (v := .agg (chc (gs q k).h (gs q k).n)) rfl (by kernel_rfl) (by kernel_rfl) (by kernel_rfl) (fun _ _ _ h => h) (Or.inl ⟨by rfl, ?y6⟩) ⟨hc1, R8⟩ ?r6
      case y6 =>
        intro w_ hS_
        simp only [List.getElem_toArray, List.getElem_cons_succ, List.getElem_cons_zero]
        exact run_load_part 77 _ (by rfl) (g8) 0 (by rfl) 77 (chc (gs q k).h (gs q k).n) (0, 0) (chc (gs q k).h (gs q k).n) _ (hS_.2) (all_row _) Tryd.underlying77 rfl (infoL _ hko.1 _)
      simp only [Act.put, List.getElem_toArray, List.getElem_cons_succ, List.getElem_cons_zero, List.setIfInBounds_toArray, List.set_cons_succ, List.set_cons_zero]
      refine wpAnyH_one (k := 6) (fuel := 4) (by kernel_rfl) rfl (by kernel_rfl) (fun K_ hK => ?_)
      refine wp_world_op _ _ (run_bsl_op 60 _ rfl rfl (run_bslL (gs q k).h hko.1 (gs q k).n w4)) ?_
      have hb_ : Below w4.heap.size w4 (w4.alloc (.cells (chc (gs q k).h (gs q k).n) 77)) := (Below.refl _ _).alloc (Nat.le_refl _) _
      have Rz := hp1_0 w4 (.cells (chc (gs q k).h (gs q k).n) 77)
      have lt8 := lt_of_row R8
      have lt7 := lt_of_row R7
      have hlo : ∀ k, own3 g b vr k → k < w4.heap.size := fun k hk => (hS.low k hk).2
      replace R7 := keep hb_ R7
      replace R8 := keep hb_ R8
      replace hS := hS.keep hb_
      replace hf := hf.trans (Fr.of hb_)
      clear hb_
      replace hc1 := hS.c1
      refine hK _ _ ⟨hc1, R8⟩ ?_
      simp only [Act.put, List.getElem_toArray, List.getElem_cons_succ, List.getElem_cons_zero, List.setIfInBounds_toArray, List.set_cons_succ, List.set_cons_zero]
      clear hK
      generalize w4.alloc (.cells (chc (gs q k).h (gs q k).n) 77) = w5 at *
      generalize w4.heap.size = gz at *
      refine wpAnyH_one (k := 7) (fuel := 3) (by kernel_rfl) rfl (by kernel_rfl) (fun K_ hK => ?_)
      refine wp_append_L (.tmp 28) (.tmp 30) rfl base vr (l ++ q.take k) rfl hS.own gz (gs q k) hko rfl Rz hl6 (Nat.le_trans hbs hf.size) (fun v2 w6 hO hgr hnx => ?_)
      obtain ⟨ao2, n2, cap2, rfl⟩ : ∃ ao n c, v2 = .slice ao n c := by obtain ⟨a_, c_, h_⟩ := slen_own hO; exact ⟨a_, _, c_, h_⟩
      have n7 : vr.ownBlock ≠ some g7 := fun e => by have := hlor _ (.inr (.inr e)); omega
      have n8 : vr.ownBlock ≠ some g8 := fun e => by have := hlor _ (.inr (.inr e)); omega
      replace R7 := (hgr.block g7 (lt_of_row R7) (fun e => n7 e.symm)).trans R7
      replace R8 := (hgr.block g8 (lt_of_row R8) (fun e => n8 e.symm)).trans R8
      have rowg := (hgr.block g (lt_of_row hS.row) (fun e => hS.ne e.symm)).trans hS.row
      have mapb : MapIs w6 b lenc (ents (l ++ q.take k)) := hS.map.row (fun _ h_ => (hgr.block b (lt_of_row h_) (fun e => hS.mapb.2 e.symm)).trans h_)
      have ne2 : (Value.slice ao2 n2 cap2).ownBlock ≠ some g := hnx.ne (lt_of_row hS.row) hS.ne
      have hfx : Fr (own3 g b v) w w6 := hf.step (grown_fr hgr) (fun j hj e => own3_new hnv j hj e)
      have hnv2 : Nx w v (.slice ao2 n2 cap2) := hnv.trans hf.size hnx
      have szg := hgr.size
      replace hc1 : w6.cell? ⟨g, 1, none⟩ = some vr := by rw [cell_of_row w6 g 1 _ _ _ rowg]; rfl
      have hmn : Mid (w6.setCell ⟨g, 1, none⟩ (.slice ao2 n2 cap2)) base g b (.slice ao2 n2 cap2) most (l ++ q.take k) (gs q k) := mid_of rowg hO mapb (hS.ok.app (AllOk.one hko)) (by rw [List.append_assoc, ← take_snocS q k hlt]; exact ndk.out) hS.most0 (by rw [List.append_assoc, ← take_snocS q k hlt]; exact lnk.out) hS.bg hS.bb ne2
      refine hK _ _ ⟨hc1, R8⟩ ?_
      simp only [Act.put, List.getElem_toArray, List.getElem_cons_succ, List.getElem_cons_zero, List.setIfInBounds_toArray, List.set_cons_succ, List.set_cons_zero]
      clear hK
      refine wpAnyH_take (i := 8) (v := ?v7) rfl (by kernel_rfl) (by kernel_rfl) (by kernel_rfl) (fun _ _ _ h => h) (Or.inl ⟨by rfl, ?y7⟩) ⟨hc1, R8⟩ ?r7
      case y7 =>
        intro w_ hS_
        go_simp
        try with_reducible rfl
      simp only [Act.put, List.getElem_toArray, List.getElem_cons_succ, List.getElem_cons_zero, List.setIfInBounds_toArray, List.set_cons_succ, List.set_cons_zero]
      refine wpAnyH_take (i := 9) (v := ?v8) rfl (by kernel_rfl) (by kernel_rfl) (by kernel_rfl) (fun _ _ _ h => h) (Or.inl ⟨by rfl, ?y8⟩) ⟨hc1, R8⟩ ?r8
      case y8 =>
        intro w_ hS_
        go_simp
        try with_reducible rfl
      simp only [Act.put, List.getElem_toArray, List.getElem_cons_succ, List.getElem_cons_zero, List.setIfInBounds_toArray, List.set_cons_succ, List.set_cons_zero]
      refine wpAnyH_one (k := 10) (fuel := 0) (by kernel_rfl) rfl (by kernel_rfl) (fun K_ hK => ?_)
      refine wp_pure_op undef (by kernel_rfl) ?_
      refine hK _ _ (⟨hc1, R8⟩) ?_
      simp only [Act.put]
      clear hK
      refine wpAnyH_done (by kernel_rfl) ?_ _
      change wpList _ _ _ _ _ _
      have f1 := row_frozen rowg 1
      replace R7 := heap_other (g := g) (j := 1) (v := .slice ao2 n2 cap2) R7 (by omega)
      replace R8 := heap_other (g := g) (j := 1) (v := .slice ao2 n2 cap2) R8 (by omega)
      replace hfx := hfx.setCell (b := g) (o := 1) (.inl rfl) (.slice ao2 n2 cap2)
      clear hgr hO mapb ne2 hS hf hnv
      go_wp2_with (fail)
      refine NoPanic.normal ?_
      generalize w6.setCell ⟨g, 1, none⟩ (.slice ao2 n2 cap2) = w7 at *
      go_wp2_with (fail)
      have hbd : Below w7.heap.size w7 w7.drew := below_drN (Below.refl _ _) 1
      replace R7 := keep hbd R7
      replace R8 := keep hbd R8
      replace hmn := hmn.keep hbd
      replace hfx := hfx.trans (Fr.of hbd)
      clear hbd
      refine wp_region_noPanic ?_
      refine wp_region_held (S := fun W => W.cell? ⟨g, 2, none⟩ = some (.map (some b)) ∧ W.heap[g8]? = some (.cells (chc (gs q k).h (gs q k).n) 77 (0, 0)) ∧ W.heap[g7]? = some (.cells (srow (gs q k)) 52 (0, 0))) (by kernel_rfl) ?_
      change wpAnyH _ _ _ _ _ _ _ _ (World.drew _)
      generalize w7.drew = w8 at *
      refine wpAnyH_take (i := 0) (v := ?v9) rfl (by kernel_rfl) (by kernel_rfl) (by kernel_rfl) (fun _ _ _ h => h) (Or.inl ⟨by rfl, ?y9⟩) ⟨hmn.c2, R8, R7⟩ ?r9
      case y9 =>
        intro w_ hS_
        go_simp
        try with_reducible rfl
      simp only [Act.put, List.getElem_toArray, List.getElem_cons_zero, List.setIfInBounds_toArray, List.set_cons_succ, List.set_cons_zero]
      refine wpAnyH_take (i := 1) (v := ?v10) rfl (by kernel_rfl) (by kernel_rfl) (by kernel_rfl) (fun _ _ _ h => h) (Or.inl ⟨by rfl, ?y10⟩) ⟨hmn.c2, R8, R7⟩ ?r10
      case y10 =>
        intro w_ hS_
        go_simp
        try with_reducible rfl
      simp only [Act.put, List.getElem_toArray, List.getElem_cons_succ, List.getElem_cons_zero, List.setIfInBounds_toArray, List.set_cons_succ, List.set_cons_zero]
      refine wpAnyH_take (i := 2) (v := ?v11) rfl (by kernel_rfl) (by kernel_rfl) (by kernel_rfl) (fun _ _ _ h => h) (Or.inl ⟨by rfl, ?y11⟩) ⟨hmn.c2, R8, R7⟩ ?r11
      case y11 =>
        intro w_ hS_
        go_simp
        try with_reducible rfl
      simp only [Act.put, List.getElem_toArray, List.getElem_cons_succ, List.getElem_cons_zero, List.setIfInBounds_toArray, List.set_cons_succ, List.set_cons_zero]
      refine wpAnyH_take (i := 3) (v := .map (some b)) rfl (by kernel_rfl) (by kernel_rfl) (by kernel_rfl) (fun _ _ _ h => h) (Or.inl ⟨by rfl, ?y12⟩) ⟨hmn.c2, R8, R7⟩ ?r12
      case y12 =>
        intro w_ hS_
        have c_ := hS_.1
        go_simp
        try with_reducible rfl
      simp only [Act.put, List.getElem_toArray, List.getElem_cons_succ, List.getElem_cons_zero, List.setIfInBounds_toArray, List.set_cons_succ, List.set_cons_zero]
      refine wpAnyH_take (i := 4) (v := .agg (chc (gs q k).h (gs q k).n)) rfl (by kernel_rfl) (by kernel_rfl) (by kernel_rfl) (fun _ _ _ h => h) (Or.inl ⟨by rfl, ?y13⟩) ⟨hmn.c2, R8, R7⟩ ?r13
      case y13 =>
        intro w_ hS_
        simp only [List.getElem_toArray, List.getElem_cons_succ, List.getElem_cons_zero]
        exact run_load_part 77 _ (by rfl) (g8) 0 (by rfl) 77 (chc (gs q k).h (gs q k).n) (0, 0) (chc (gs q k).h (gs q k).n) _ (hS_.2.1) (all_row _) Tryd.underlying77 rfl (infoL _ hko.1 _)
      simp only [Act.put, List.getElem_toArray, List.getElem_cons_succ, List.getElem_cons_zero, List.setIfInBounds_toArray, List.set_cons_succ, List.set_cons_zero]
      refine wpAnyH_take (i := 5) (v := ?v14) rfl (by kernel_rfl) (by kernel_rfl) (by kernel_rfl) (fun _ _ _ h => h) (Or.inl ⟨by rfl, ?y14⟩) ⟨hmn.c2, R8, R7⟩ ?r14
      case y14 =>
        intro w_ hS_
        go_simp
        try with_reducible rfl
      simp only [Act.put, List.getElem_toArray, List.getElem_cons_succ, List.getElem_cons_zero, List.setIfInBounds_toArray, List.set_cons_succ, List.set_cons_zero]
      refine wpAnyH_take (i := 6) (v := .agg (irow .u8 (gs q k).m)) rfl (by kernel_rfl) (by kernel_rfl) (by kernel_rfl) (fun _ _ _ h => h) (Or.inl ⟨by rfl, ?y15⟩) ⟨hmn.c2, R8, R7⟩ ?r15
      case y15 =>
        intro w_ hS_
        simp only [List.getElem_toArray, List.getElem_cons_succ, List.getElem_cons_zero]
        exact run_load_part 23 _ (by rfl) (g7) 33 (by rfl) 52 (srow (gs q k)) (0, 0) (irow .u8 (gs q k).m) _ (hS_.2.2) (srow_m hko) Tryd.underlying23 rfl (infok8 _ hko.2)
      simp only [Act.put, List.getElem_toArray, List.getElem_cons_succ, List.getElem_cons_zero, List.setIfInBounds_toArray, List.set_cons_succ, List.set_cons_zero]
      refine wpAnyH_one (k := 7) (fuel := 0) (by kernel_rfl) rfl (by kernel_rfl) (fun K_ hK => ?_)
      obtain ⟨o_, hru, hS⟩ := hmn.put
      refine wp_skip_op (run_upd_op 61 _ _ _ rfl _ (lenc (gs q k).lb) (.agg (irow .u8 (gs q k).m)) rfl rfl rfl hru) ?_
      replace hfx := hfx.setBlock (b := b) (.inr (.inl rfl)) o_
      have lb_ := hlor b (.inr (.inl rfl))
      replace R8 := (sb_other (W := w8) (b := b) (k := g8) (o := o_) (by omega)).trans R8
      replace R7 := (sb_other (W := w8) (b := b) (k := g7) (o := o_) (by omega)).trans R7
      refine hK _ _ ⟨hS.c2, R8, R7⟩ ?_
      simp only [Act.put]
      clear hK
      refine wpAnyH_done (by kernel_rfl) ?_ _
      refine NoPanic.normal ?_
      rw [List.append_assoc, ← take_snocS q k hlt] at hS
      generalize setBlock w8 b o_ = w9 at *
      go_wp2_with (fail)
      refine ⟨⟨k + 1, _, by omega, by go_num, hS, hfx, hnv2⟩, ?_⟩
      simp [intOf]; omega
    · obtain rfl : k = q.length := by omega
      have hd : decide ((q.length : Int) < (q.length : Int)) = false := by simp
      rw [List.take_length] at hS
      go_wp2_with (fail)
      go_ret
      exact ⟨_, rfl, hS, hf, hnv⟩

end Go.Proofs.YtjofbnilhkmpeaaDoor
