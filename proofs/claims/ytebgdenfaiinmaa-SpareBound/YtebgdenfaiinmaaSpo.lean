import Derived.Test.YtebgdenfaiinmaaProg
import Derived.WalkKit
import Derived.WalkSpells
import Derived.WalkLawsBesides
import Derived.Lib.QuietBelow
import Derived.BigQuiet
import Derived.OrdersHeld
import Derived.Deep.RegionHeld3
import Derived.OwnWalk
import Derived.Test.YtebgdenfaiinmaaKit
import Derived.Test.YtebgdenfaiinmaaSpn
namespace Go.Proofs.Ytebgdenfaiinmaa
open Go Go.RowKit Go.Sort Go.ChangeMaps Go.MapKept
attribute [local go_sem] setCell_drewN alloc_drewN

theorem wp_delete {w w' : World} {o : Oper} {a : Act} {K : Act → World → Prop} {Q : Exit → Act → World → Prop} (m x : Operand) (ho : o.op = .call { callee := .builtin .delete, args := #[m, x], argTypes := #[68, 86] }) (u k : Value) (hm : a.eval m = u) (hx : a.eval x = k) (hr : (Builtin.delete_ #[68, 86] o.type #[u, k]).run Try.prog w = .ok (.tuple #[]) w')
    (h : K (a.put o.dst (.tuple #[])) w') : o.wp Try.prog a w K Q := by
  unfold Oper.wp execOp
  simp only [ho, resolve, invoke, builtin, Sem.run_bind, Sem.run_pure, Result.andThen_ok, List.map_toArray, List.map_cons, List.map_nil, hm, hx, hr]
  exact h
theorem nod_cut {l : List Sr} (hn : (l.map Sr.lb).Nodup) {i j : Nat} (hij : i ≤ j) : ((l.take i ++ l.drop j).map Sr.lb).Nodup := by
  refine List.Nodup.sublist ?_ hn
  refine List.Sublist.map _ ?_
  conv => rhs; rw [← List.take_append_drop i l]
  refine List.Sublist.append (List.Sublist.refl _) ?_
  have e : l.drop j = (l.drop i).drop (j - i) := by rw [List.drop_drop]; congr 1; omega
  rw [e]
  exact List.drop_sublist _ _
theorem ents_erase {l : List Sr} {i k : Nat} (hk : i + k < l.length) : (ents (l.take i ++ l.drop (i + k))).eraseIdx i = ents (l.take i ++ l.drop (i + (k + 1))) := by
  have e : l.drop (i + k) = gs l (i + k) :: l.drop (i + (k + 1)) := by
    rw [← Nat.add_assoc, gs, List.getD_eq_getElem?_getD, List.getElem?_eq_getElem hk]
    exact List.drop_eq_getElem_cons hk
  have el : (l.take i).length = i := by rw [List.length_take]; omega
  have e2 : (l.take i ++ gs l (i + k) :: l.drop (i + (k + 1))).eraseIdx i = l.take i ++ l.drop (i + (k + 1)) := by
    rw [List.eraseIdx_append_of_length_le (by omega), el, Nat.sub_self]; rfl
  rw [e, ents, ents, ← e2, map_eraseIdx]
theorem plc_cut {l : List Sr} (hn : (l.map Sr.lb).Nodup) {i k : Nat} (hk : i + k < l.length) : plc (gs l (i + k)).lb ((ents (l.take i ++ l.drop (i + k))).map (·.1)) = some i := by
  rw [ents_keys]
  refine plc_nod _ _ _ (nod_cut hn (by omega)) ?_
  have el : (l.take i).length = i := by rw [List.length_take]; omega
  rw [List.getElem?_map, List.getElem?_append_right (by omega), el, Nat.sub_self, List.getElem?_drop, Nat.add_zero, gs_get hk]
  rfl
theorem own_row {W : World} {base : Nat} {v : Value} {l : List Sr} (h : W.ownsRow base 86 33 v l.length (lbs l)) (hl : 0 < l.length) : ∃ gl cap cur, v = .slice (some ⟨gl, 0, none⟩) l.length cap ∧ base ≤ gl ∧ W.heap[gl]? = some (.cells cur 86 (0, 0)) ∧ l.length ≤ cap ∧ cap ≤ maxLen ∧ cur.size = cap * 33 ∧ cur.toList.take (l.length * 33) = lbs l := by
  obtain ⟨_, ⟨_, h0⟩ | h⟩ := h
  · omega
  · exact h
set_option maxRecDepth 100000 in
set_option maxHeartbeats 4000000 in
theorem a_drop (base g b : Nat) (v : Value) (most : Int) (l : List Sr) (i j : Nat) (hij : i < j) (hj : j ≤ l.length) (w : World) (hS : Sto w base g b v most l) : Calls Try.prog 50 #[.pointer (some ⟨g, 0, none⟩), .int .i64 i, .int .i64 j] w fun e w' => ∃ v', e = .returned (.tuple #[]) ∧ Sto w' base g b v' most (l.take i ++ l.drop j) ∧ Fr (own3 g b v) w w' ∧ v'.ownBlock = v.ownBlock := by
  have hok := hS.ok
  have hlen := hS.len
  have hm0 := hS.most0
  have nod := hide hS.nod
  have hbg := hS.mapb
  have hbg2 := hS.bg
  have hbb2 := hS.bb
  have hne2 := hS.ne
  have hlo : ∀ k, own3 g b v k → k < w.heap.size := fun k hk => (hS.low k hk).2
  obtain ⟨gl, cap, cur, rfl, hbl, hg0, hlc, hcm, hcs0, hct0⟩ := own_row hS.own (by omega)
  have hcs := hide hcs0
  have hct := hide hct0
  clear hcs0 hct0
  have hcm2 : (cap : Int) ≤ 9223372036854775807 := by unfold maxLen at hcm; omega
  have c1 := hS.c1
  have hr0 := hS.row
  have hmp0 := hS.map
  have hij2 : (i : Int) ≤ (j : Int) := by omega
  have hjl : (j : Int) ≤ (cap : Int) := by omega
  have hjl2 : (j : Int) ≤ (l.length : Int) := by omega
  have hic : ¬ cap = i := by omega
  have hic2 : ¬ i = cap := by omega
  have hjc : j ≤ cap := by omega
  clear hS
  go_enter Try.func50, Try.ntmps50
  go_wp2_with (fail)
  clear c1
  go_loopw [16] (fun u16 wr => ∃ k : Nat, k ≤ j - i ∧ u16 = .int .i64 k ∧ wr.heap[g]? = some (.cells #[.int .i64 most, .slice (some ⟨gl, 0, none⟩) l.length cap, .map (some b)] 71 (0, 0)) ∧ wr.heap[gl]? = some (.cells cur 86 (0, 0)) ∧ MapIs wr b lenc (ents (l.take i ++ l.drop (i + k))) ∧ Fr (own3 g b (.slice (some ⟨gl, 0, none⟩) l.length cap)) w wr) (fun u16 _ => (j - i) - (intOf u16).toNat)
  case atStart => exact ⟨0, by omega, rfl, hr0, hg0, by rw [Nat.add_zero, List.take_append_drop]; exact hmp0, Fr.refl _ _⟩
  case round =>
    clear hr0 hg0 hmp0
    obtain ⟨k, hk, rfl, hr, hg, hm, hf⟩ := hrel
    by_cases hlt : k < j - i
    · have hd : decide ((k : Int) < ((j - i : Nat) : Int)) = true := by simp; omega
      have hikl : i + k < l.length := by omega
      have hko := hok.at hikl
      have hk1 : 0 ≤ (k : Int) ∧ (k : Int) < ((j - i : Nat) : Int) := by omega
      have hil : (Try.prog.info? 86).map (·.size) = some (lbl (gs l (i + k))).length := by rw [lbl_len hko]; kernel_rfl
      have rg : wr.rangeAt gl (i * 33 + k * 33) (lbl (gs l (i + k))) := by
        intro t x hx
        have ht : t < 33 := by have := (List.getElem?_eq_some_iff.1 hx).1; rw [lbl_len hko] at this; exact this
        have e := flat_mem (f := lbl) (fun s hs => lbl_len (hok s hs)) hikl t x hx
        have e' : (lbs l)[(i + k) * 33 + t]? = some x := e
        rw [← hct.out, List.getElem?_take_of_lt (by omega)] at e'
        rw [cell_of_row _ _ _ _ _ _ hg, ← Nat.add_mul]
        simpa using e'
      have hek := ents_ok (hok.take i |>.app (hok.drop (i + k)))
      have sw := hf.size
      have hlb := hlo b (.inr (.inl rfl))
      have z_ := hp1_0 wr (.cells (chc (zr 32) 0) 86)
      go_wp2_with (first | (refine wpList_load_mid rfl 86 _ rfl gl (i * 33 + k * 33) rfl (lbl (gs l (i + k))) _ rg Try.underlying86 rfl hil ?_) | (refine wpList_alloc rfl 86 rfl (chc (zr 32) 0) zlb ?_) | (refine wpList_store_row rfl 86 _ _ rfl (wr.heap.size) (chc (gs l (i + k)).h (gs l (i + k)).n) rfl rfl 86 _ z_ (infoL _ hko.1 _) (by rw [chc_size _ (zr_len 32), chc_size _ hko.1]) (chc_one _ _) ?_; refine wpList_stay ?_) | fail)
      unfold WpStay
      try simp only [Act.put, List.setIfInBounds_toArray, List.set_cons_succ, List.set_cons_zero]
      have R7 := setRow_heap (wr.alloc (.cells (chc (zr 32) 0) 86)) wr.heap.size _ (chc (gs l (i + k)).h (gs l (i + k)).n) _ _ z_
      have hb_ : Below wr.heap.size wr ((wr.alloc (.cells (chc (zr 32) 0) 86)).setRow wr.heap.size (chc (gs l (i + k)).h (gs l (i + k)).n)) := below_setRow ((Below.refl _ _).alloc (Nat.le_refl _) _) (Nat.le_refl _) _
      have sz_g7 := hb_.size
      have lt_hr_g7 := lt_of_row hr
      have lt_hg_g7 := lt_of_row hg
      replace hr := keep hb_ hr
      replace hg := keep hb_ hg
      replace hf := hf.trans (Fr.of hb_)
      replace hm := hm.row (fun _ h_ => keep hb_ h_)
      clear hb_ z_
      generalize ((wr.alloc (.cells (chc (zr 32) 0) 86)).setRow wr.heap.size (chc (gs l (i + k)).h (gs l (i + k)).n)) = w1 at *
      generalize wr.heap.size = g7 at *
      go_wp2_with (fail)
      have hbd : Below w1.heap.size w1 w1.drew := below_drN (Below.refl _ _) 1
      replace R7 := keep hbd R7
      replace hr := keep hbd hr
      replace hg := keep hbd hg
      replace hf := hf.trans (Fr.of hbd)
      replace hm := hm.row (fun _ h_ => keep hbd h_)
      clear hbd
      refine wp_region_noPanic ?_
      refine wp_region_held (S := fun W => W.heap[g]? = some (.cells #[.int .i64 most, .slice (some ⟨gl, 0, none⟩) l.length cap, .map (some b)] 71 (0, 0)) ∧ W.heap[g7]? = some (.cells (chc (gs l (i + k)).h (gs l (i + k)).n) 86 (0, 0))) (by kernel_rfl) ?_
      change wpAnyH _ _ _ _ _ _ _ _ (World.drew _)
      generalize w1.drew = w2 at *
      refine wpAnyH_take (i := 0) (v := ?v1) rfl (by kernel_rfl) (by kernel_rfl) (by kernel_rfl) (fun _ _ _ h => h) (Or.inl ⟨by rfl, ?y1⟩) ⟨hr, R7⟩ ?r1
      case y1 =>
        intro w_ hS_
        go_simp
        try with_reducible rfl
      simp only [Act.put, List.getElem_toArray, List.getElem_cons_zero, List.setIfInBounds_toArray, List.set_cons_succ, List.set_cons_zero]
      refine wpAnyH_take (i := 1) (v := ?v2) rfl (by kernel_rfl) (by kernel_rfl) (by kernel_rfl) (fun _ _ _ h => h) (Or.inl ⟨by rfl, ?y2⟩) ⟨hr, R7⟩ ?r2
      case y2 =>
        intro w_ hS_
        go_simp
        try with_reducible rfl
      simp only [Act.put, List.getElem_toArray, List.getElem_cons_succ, List.getElem_cons_zero, List.setIfInBounds_toArray, List.set_cons_succ, List.set_cons_zero]
      refine wpAnyH_take (i := 2) (v := ?v3) rfl (by kernel_rfl) (by kernel_rfl) (by kernel_rfl) (fun _ _ _ h => h) (Or.inl ⟨by rfl, ?y3⟩) ⟨hr, R7⟩ ?r3
      case y3 =>
        intro w_ hS_
        go_simp
        try with_reducible rfl
      simp only [Act.put, List.getElem_toArray, List.getElem_cons_succ, List.getElem_cons_zero, List.setIfInBounds_toArray, List.set_cons_succ, List.set_cons_zero]
      refine wpAnyH_take (i := 3) (v := .map (some b)) rfl (by kernel_rfl) (by kernel_rfl) (by kernel_rfl) (fun _ _ _ h => h) (Or.inl ⟨by rfl, ?y4⟩) ⟨hr, R7⟩ ?r4
      case y4 =>
        intro w_ hS_
        have c_ : w_.cell? ⟨g, 2, none⟩ = some (.map (some b)) := by rw [cell_of_row _ _ _ _ _ _ hS_.1]; rfl
        go_simp
        try with_reducible rfl
      simp only [Act.put, List.getElem_toArray, List.getElem_cons_succ, List.getElem_cons_zero, List.setIfInBounds_toArray, List.set_cons_succ, List.set_cons_zero]
      refine wpAnyH_take (i := 4) (v := .agg (chc (gs l (i + k)).h (gs l (i + k)).n)) rfl (by kernel_rfl) (by kernel_rfl) (by kernel_rfl) (fun _ _ _ h => h) (Or.inl ⟨by rfl, ?y5⟩) ⟨hr, R7⟩ ?r5
      case y5 =>
        intro w_ hS_
        simp only [List.getElem_toArray, List.getElem_cons_succ, List.getElem_cons_zero]
        exact run_load_part 86 _ (by rfl) (g7) 0 (by rfl) 86 (chc (gs l (i + k)).h (gs l (i + k)).n) (0, 0) (chc (gs l (i + k)).h (gs l (i + k)).n) _ (hS_.2) (all_row _) Try.underlying86 rfl (infoL _ hko.1 _)
      simp only [Act.put, List.getElem_toArray, List.getElem_cons_succ, List.getElem_cons_zero, List.setIfInBounds_toArray, List.set_cons_succ, List.set_cons_zero]
      refine wpAnyH_one (k := 5) (fuel := 0) (by kernel_rfl) rfl (by kernel_rfl) (fun K_ hK => ?_)
      obtain ⟨o_, hrd, hm2⟩ := run_delm kLb Try.underlying68 0 w2 b (ents (l.take i ++ l.drop (i + k))) hm hek (gs l (i + k)).lb hko.1 i (plc_cut nod.out hikl)
      refine wp_delete (.tmp 23) (.tmp 24) rfl (.map (some b)) (lenc (gs l (i + k)).lb) rfl rfl hrd ?_
      rw [ents_erase hikl] at hm2
      replace hf := hf.setBlock (b := b) (.inr (.inl rfl)) o_
      replace hr := (sb_other (W := w2) (b := b) (k := g) (o := o_) (Ne.symm hbg.1)).trans hr
      replace hg := (sb_other (W := w2) (b := b) (k := gl) (o := o_) (fun e => hbg.2 (by rw [← e]; rfl))).trans hg
      replace R7 := (sb_other (W := w2) (b := b) (k := g7) (o := o_) (by omega)).trans R7
      refine hK _ _ ⟨hr, R7⟩ ?_
      simp only [Act.put]
      clear hK
      refine wpAnyH_done (by kernel_rfl) ?_ _
      refine NoPanic.normal ?_
      generalize setBlock w2 b o_ = w3 at *
      go_wp2_with (fail)
      refine ⟨⟨k + 1, by omega, by go_num, hr, hg, hm2, hf⟩, ?_⟩
      simp [intOf]; omega
    · obtain rfl : k = j - i := by omega
      have hd : decide (((j - i : Nat) : Int) < ((j - i : Nat) : Int)) = false := by simp
      have eij : i + (j - i) = j := by omega
      rw [eij] at hm
      clear eij
      obtain ⟨m, hmj⟩ : ∃ m, l.length - j = m := ⟨_, rfl⟩
      have cD := a_Delete base gl cap cur l hok (by omega) i j m hij hj hmj wr hg hlc hcm hcs.out hct.out hbl
      have hcl : Hid ((l.take i ++ l.drop j).length = i + m) := hide (by rw [List.length_append, List.length_take, List.length_drop]; omega)
      have hml : i + m ≤ l.length := by omega
      clear hmj
      have c1 : wr.cell? ⟨g, 1, none⟩ = some (.slice (some ⟨gl, 0, none⟩) l.length cap) := by rw [cell_of_row _ _ _ _ _ _ hr]; rfl
      go_wp2_with (fail)
      refine cD.mono ?_
      rintro e_ w5 ⟨rfl, hO5, hf5⟩
      clear cD
      have hgne : g ≠ gl := fun e => hne2 (by rw [e]; rfl)
      have hbne : b ≠ gl := fun e => hbg.2 (by rw [e]; rfl)
      replace hr := hf5.row hr hgne
      replace hm := hm.row (fun _ h_ => hf5.row h_ hbne)
      replace hf := hf.step hf5 (fun j_ _ e => .inr (.inr (by rw [e]; rfl)))
      have f1 := row_frozen hr 1
      have c15 : w5.cell? ⟨g, 1, none⟩ = some (.slice (some ⟨gl, 0, none⟩) l.length cap) := by rw [cell_of_row _ _ _ _ _ _ hr]; rfl
      clear c1
      go_wp2_with (fail)
      have hf6 := hf.setCell (b := g) (o := 1) (.inl rfl) (.slice (some ⟨gl, 0, none⟩) (i + m) cap)
      refine bodyPost_end (results_none rfl _ _ _) rfl ⟨.slice (some ⟨gl, 0, none⟩) (i + m) cap, rfl, ⟨?_, ?_, ?_, hok.take i |>.app (hok.drop j), nod_cut nod.out (by omega), hm0, ?_, hbg2, hbb2, hne2⟩, hf6, rfl⟩
      · rw [heap_setCell_same _ g 1 _ _ _ hr]; rfl
      · exact own_move hO5 (fun k e => heap_setCell_other _ _ _ _ (fun e2 => hne2 (by rw [show (Value.slice (some ⟨gl, 0, none⟩) l.length cap).ownBlock = (Value.slice (some ⟨gl, 0, none⟩) (i + m) cap).ownBlock from rfl, e]; exact congrArg some e2)))
      · exact hm.row (fun _ h_ => (heap_setCell_other _ _ _ _ hbg.1).trans h_)
      · have := hcl.out; omega
set_option maxRecDepth 100000 in
set_option maxHeartbeats 4000000 in
theorem a_Delete_eq (ao : Option Addr) (n cap i : Nat) (hi : i ≤ n) (hn : n ≤ cap) (hcm : (cap : Int) ≤ 9223372036854775807) (h0 : ao = none → cap = 0) (w : World) : Calls Try.prog 55 #[.slice ao n cap, .int .i64 i, .int .i64 i] w fun e w' => e = .returned (.slice ao n cap) ∧ w' = w := by
  have h1 : (i : Int) ≤ (n : Int) := by omega
  have h2 : (n : Int) ≤ (cap : Int) := by omega
  have hd1 : decide ((i : Int) = (i : Int)) = true := by simp
  cases ao with
  | none =>
    obtain rfl := h0 rfl
    obtain rfl : n = 0 := by omega
    obtain rfl : i = 0 := by omega
    go_enter Try.func55, Try.ntmps55
    go_wp2_with (fail)
    go_ret
    exact ⟨rfl, rfl⟩
  | some a =>
    go_enter Try.func55, Try.ntmps55
    go_wp2_with (fail)
    all_goals
      go_ret
      exact ⟨rfl, rfl⟩
theorem setCell_same {W : World} {g j : Nat} {cs : Array Value} {t : TypeId} {fr : Nat × Nat} {u : Value} (h : W.heap[g]? = some (.cells cs t fr)) (hj : cs[j]? = some u) : W.setCell ⟨g, j, none⟩ u = W := by
  rw [setCell_eq_setRow W g j cs t fr u h]
  have e : cs.setIfInBounds j u = cs := by
    apply Array.ext_getElem?
    intro k
    rw [Array.getElem?_setIfInBounds]
    split
    · rename_i e; subst e; split
      · exact hj.symm
      · rename_i h2; rw [Array.getElem?_eq_none (by omega)]
    · rfl
  rw [e]
  exact setRow_same h
theorem slice_cap {W : World} {base : Nat} {l : List Sr} {ao : Option Addr} {n cap : Nat} (h : W.ownsRow base 86 33 (.slice ao n cap) l.length (lbs l)) : n ≤ cap ∧ (cap : Int) ≤ 9223372036854775807 ∧ (ao = none → cap = 0) ∧ (∀ a, ao = some a → ∃ gl, a = ⟨gl, 0, none⟩) := by
  obtain ⟨_, ⟨e, h0⟩ | ⟨gl, c, cur, e, hb, hg, h1, h2, _⟩⟩ := h
  · cases e
    exact ⟨Nat.le_refl _, by omega, fun _ => rfl, fun a e => by cases e⟩
  · cases e
    exact ⟨h1, by unfold maxLen at h2; omega, (fun e => by cases e), fun a e => ⟨gl, by cases e; rfl⟩⟩
set_option maxRecDepth 100000 in
set_option maxHeartbeats 4000000 in
theorem a_drop0 (base g b : Nat) (v : Value) (most : Int) (l : List Sr) (w : World) (hS : Sto w base g b v most l) : Calls Try.prog 50 #[.pointer (some ⟨g, 0, none⟩), .int .i64 0, .int .i64 0] w fun e w' => e = .returned (.tuple #[]) ∧ w' = w := by
  obtain ⟨ao, n, cap, rfl⟩ : ∃ ao n c, v = .slice ao n c := by obtain ⟨a_, c_, h_⟩ := slen_own hS.own; exact ⟨a_, _, c_, h_⟩
  obtain ⟨hc1, hc2, hc3, hc4⟩ := slice_cap hS.own
  have cD := a_Delete_eq ao n cap 0 (by omega) hc1 hc2 hc3 w
  have c1 := hS.c1
  have f1 := row_frozen hS.row 1
  have hcs := hide (setCell_same (j := 1) (u := .slice ao n cap) hS.row rfl)
  have h2 : (n : Int) ≤ (cap : Int) := by omega
  have hd : decide ((0 : Int) < (0 : Int)) = false := by simp
  clear hS
  cases ao with
  | none =>
    obtain rfl := hc3 rfl
    obtain rfl : n = 0 := by omega
    clear hc3
    go_enter Try.func50, Try.ntmps50
    go_wp2_with (fail)
    go_loopw [16] (fun u16 wr => u16 = .int .i64 0 ∧ wr = w) (fun _ _ => 0)
    case atStart => exact ⟨rfl, rfl⟩
    case round =>
      obtain ⟨rfl, rfl⟩ := hrel
      go_wp2_with (fail)
      refine cD.mono ?_
      rintro e_ w5 ⟨rfl, h5_⟩
      subst w5
      go_wp2_with (fail)
      exact bodyPost_end (results_none rfl _ _ _) rfl ⟨rfl, hcs.out⟩
  | some a =>
    clear hc3
    obtain ⟨gl, rfl⟩ := hc4 a rfl
    clear hc4
    rcases Nat.eq_zero_or_pos cap with rfl | hcap
    · obtain rfl : n = 0 := by omega
      go_enter Try.func50, Try.ntmps50
      go_wp2_with (fail)
      go_loopw [16] (fun u16 wr => u16 = .int .i64 0 ∧ wr = w) (fun _ _ => 0)
      case atStart => exact ⟨rfl, rfl⟩
      case round =>
        obtain ⟨rfl, rfl⟩ := hrel
        go_wp2_with (fail)
        refine cD.mono ?_
        rintro e_ w5 ⟨rfl, h5_⟩
        subst w5
        go_wp2_with (fail)
        exact bodyPost_end (results_none rfl _ _ _) rfl ⟨rfl, hcs.out⟩
    · have hcap2 : ¬ cap = 0 := by omega
      have hcap3 : ¬ 0 = cap := by omega
      go_enter Try.func50, Try.ntmps50
      go_wp2_with (fail)
      go_loopw [16] (fun u16 wr => u16 = .int .i64 0 ∧ wr = w) (fun _ _ => 0)
      case atStart => exact ⟨rfl, rfl⟩
      case round =>
        obtain ⟨rfl, rfl⟩ := hrel
        go_wp2_with (fail)
        refine cD.mono ?_
        rintro e_ w5 ⟨rfl, h5_⟩
        subst w5
        go_wp2_with (fail)
        exact bodyPost_end (results_none rfl _ _ _) rfl ⟨rfl, hcs.out⟩

end Go.Proofs.Ytebgdenfaiinmaa
