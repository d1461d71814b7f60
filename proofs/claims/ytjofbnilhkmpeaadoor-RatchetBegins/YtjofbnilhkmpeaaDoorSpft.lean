import Derived.Test.YtjofbnilhkmpeaaDoorProg
import Derived.WalkKit
import Derived.WalkSpells
import Derived.WalkLawsBesides
import Derived.Lib.QuietBelow
import Derived.BigQuiet
import Derived.OrdersHeld
import Derived.Deep.RegionHeld3
import Derived.OwnWalk
import Derived.Test.YtjofbnilhkmpeaaDoorKa
import Derived.Test.YtjofbnilhkmpeaaDoorSpde
namespace Go.Proofs.YtjofbnilhkmpeaaDoor
set_option maxRecDepth 100000
open Go Go.RowKit Go.Sort Go.ChangeMaps Go.MapKept
attribute [local go_sem] setCell_drewN alloc_drewN

/-- Does one of q meet another of it, or one of l? -/
def mts (l q : List Sr) : Bool := !decide ((l ++ q).map Sr.lb).Nodup
theorem mts_false {l q : List Sr} : mts l q = false ↔ ((l ++ q).map Sr.lb).Nodup := by simp [mts]
def sen (q : List Sr) : List (Lb × Value) := q.map fun s => (s.lb, .agg #[])
theorem sen_keys (q : List Sr) : (sen q).map (·.1) = q.map Sr.lb := by
  rw [sen, List.map_map]; rfl
theorem sen_ok {q : List Sr} (h : AllOk q) : ∀ y ∈ sen q, lok y.1 := by
  intro y hy
  obtain ⟨s, hs, rfl⟩ := List.mem_map.1 hy
  exact (h s hs).1
theorem zun0 (w : World) : (zeroValue 105).run Tryd.prog w = .ok (.agg #[]) w := by kernel_rfl
theorem zun (W : World) : (Instr.alloc 105 true (.tuple #[])).run Tryd.prog W = .ok (.pointer (some ⟨W.heap.size, 0, none⟩)) (W.alloc (.cells #[] 105)) := by kernel_rfl
theorem bun : Tryd.prog.built 105 [] = some #[] := by kernel_rfl
theorem iun : (Tryd.prog.info? 105).map (·.size) = some (#[] : Array Value).size := by kernel_rfl
theorem look_sen {W : World} {b : Nat} {q : List Sr} (h : MapIs W b lenc (sen q)) (hq : AllOk q) (x : Lb) (hx : lok x) : (Instr.lookup 103 (.map (some b)) (lenc x) true).run Tryd.prog W = .ok (.tuple #[.agg #[], .bool (plc x (q.map Sr.lb)).isSome]) W := by
  have := run_lookm kLb Tryd.underlying103 W (zun0 W) b (sen q) h (sen_ok hq) x hx true
  rw [this]
  have e : aget (sen q) x = (plc x (q.map Sr.lb)).map fun _ => .agg #[] := by
    unfold aget
    rw [sen_keys]
    cases h : plc x (q.map Sr.lb) with
    | none => rfl
    | some i =>
      have hi := (plc_lt x _ i h).1
      rw [List.length_map] at hi
      simp [sen, hi]
  rw [e]
  cases plc x (q.map Sr.lb) <;> rfl
theorem plc_t {κ : Type} [DecidableEq κ] (x : κ) (l : List κ) : (plc x l).isSome = true ↔ x ∈ l := by
  have := plc_none x l
  cases h : plc x l with
  | none => simp [h] at this; simp [this]
  | some i => simp [h] at this; simp [this]
theorem plc_f {κ : Type} [DecidableEq κ] (x : κ) (l : List κ) : (plc x l).isSome = false ↔ x ∉ l := by
  rw [← plc_t x l]
  cases (plc x l).isSome <;> simp
theorem fnd_t (l : List Sr) (x : Lb) : (fnd l x).isSome = true ↔ x ∈ l.map Sr.lb := by
  rw [fnd, Option.isSome_map]; exact plc_t _ _
theorem fnd_f (l : List Sr) (x : Lb) : (fnd l x).isSome = false ↔ x ∉ l.map Sr.lb := by
  rw [fnd, Option.isSome_map]; exact plc_f _ _
theorem nod_snoc {l q : List Sr} {k : Nat} (hk : k < q.length) (h : ((l ++ q.take k).map Sr.lb).Nodup) (h1 : (fnd l (gs q k).lb).isSome = false) (h2 : (plc (gs q k).lb ((q.take k).map Sr.lb)).isSome = false) : ((l ++ q.take (k + 1)).map Sr.lb).Nodup := by
  rw [fnd_f] at h1
  rw [plc_f] at h2
  rw [take_snocS q k hk, ← List.append_assoc, List.map_append, List.nodup_append]
  refine ⟨h, by simp, ?_⟩
  intro a ha b hb e
  simp only [List.map_cons, List.map_nil, List.mem_singleton] at hb
  subst e; subst hb
  rw [List.map_append, List.mem_append] at ha
  rcases ha with ha | ha
  · exact h1 ha
  · exact h2 ha
theorem not_nod {l q : List Sr} {k : Nat} (hk : k < q.length) (h : (fnd l (gs q k).lb).isSome = true ∨ (plc (gs q k).lb ((q.take k).map Sr.lb)).isSome = true) : mts l q = true := by
  rw [fnd_t, plc_t] at h
  cases hm : mts l q
  · exfalso
    rw [mts_false] at hm
    have e : q = q.take k ++ gs q k :: q.drop (k + 1) := by
      rw [← List.singleton_append, ← List.append_assoc, ← take_snocS q k hk, List.take_append_drop]
    rw [e, List.map_append, List.map_append, List.map_cons, List.nodup_append] at hm
    obtain ⟨_, h3, h4⟩ := hm
    rcases h with h | h
    · exact h4 _ h _ (by simp) rfl
    · rw [List.nodup_append] at h3
      exact h3.2.2 _ h _ (by simp) rfl
  · rfl
theorem below_setBlock {w W : World} {g b : Nat} (o : Obj) (h : Below g w W) (hb : g ≤ b) : Below g w (setBlock W b o) := by
  refine ⟨h.os, h.tape, h.output, ?_, fun k hk => ?_⟩
  · have := h.size
    simpa [setBlock] using this
  · rw [← h.block k hk]
    simp only [setBlock]
    exact Array.getElem?_setIfInBounds_ne (by omega)
set_option maxRecDepth 100000 in
set_option maxHeartbeats 4000000 in
theorem a_meets (base g b : Nat) (v : Value) (most : Int) (l : List Sr) (q : List Sr) (u : Value) (w : World) (hS : Sto w base g b v most l) (hq : SpL w u q) : Calls Tryd.prog 45 #[.pointer (some ⟨g, 0, none⟩), u] w fun e w' => e = .returned (.bool (mts l q)) ∧ Below w.heap.size w w' := by
  have hok := hS.ok
  have hlo : ∀ k, own3 g b v k → k < w.heap.size := fun k hk => (hS.low k hk).2
  have hqo := hq.ok
  have hql := hq.len
  obtain ⟨ao, cap, rfl⟩ := hq.form
  have hmm := @run_makeMap Tryd.prog
  have hM0 : MapIs (w.alloc (.map #[] 0)) w.heap.size lenc (sen (q.take 0)) := ⟨#[], 0, hp1_0 _ _, rfl⟩
  have hw0 : Below w.heap.size w (w.alloc (.map #[] 0)) := (Below.refl _ _).alloc (Nat.le_refl _) _
  have nd0 := hS.nod
  go_enter Tryd.func45, Tryd.ntmps45
  go_wp2_with (fail)
  go_loopw [16] (fun i wr => ∃ k : Nat, k ≤ q.length ∧ i = .int .i64 k ∧ Hid (((l ++ q.take k).map Sr.lb).Nodup) ∧ Below w.heap.size w wr ∧ MapIs wr w.heap.size lenc (sen (q.take k))) (fun i _ => q.length - (intOf i).toNat)
  case atStart => exact ⟨0, by omega, rfl, hide (by simpa using nd0), hw0, hM0⟩
  case round =>
    clear hM0 hw0 nd0
    obtain ⟨k, hk, rfl, hnd, hw, hM⟩ := hrel
    by_cases hlt : k < q.length
    · have hd : decide ((k : Int) < (q.length : Int)) = true := by simp; omega
      obtain ⟨bq, off, rfl, hbq, hr⟩ := hq.at hlt
      have hko := hqo.at hlt
      replace hS := hS.keep hw
      replace hr := rangeAt_keep hr (hw.block bq hbq)
      have hk1 : 0 ≤ (k : Int) ∧ (k : Int) < (q.length : Int) := by omega
      have sw := hw.size
      have lgm : w.heap.size < wr.heap.size := hM.lt
      clear hq
      have z_ := hp1_0 wr (.cells (srow zsr) 52)
      go_wp2_with (first | (refine wpList_load_mid rfl 52 _ rfl bq (off + k * 65) rfl (srl (gs q k)) _ hr Tryd.underlying52 rfl (infoSl hko) ?_) | (refine wpList_alloc rfl 52 rfl (srow zsr) zsp ?_) | (refine wpList_store_row rfl 52 _ _ rfl (wr.heap.size) (srow (gs q k)) rfl rfl 52 _ z_ (infoS hko) (by rw [srow_size zsr_ok, srow_size hko]) (srow_one _) ?_; refine wpList_stay ?_) | fail)
      unfold WpStay
      try simp only [Act.put, List.setIfInBounds_toArray, List.set_cons_succ, List.set_cons_zero]
      have R7 := setRow_heap (wr.alloc (.cells (srow zsr) 52)) wr.heap.size _ (srow (gs q k)) _ _ z_
      have hb_ : Below wr.heap.size wr ((wr.alloc (.cells (srow zsr) 52)).setRow wr.heap.size (srow (gs q k))) := below_setRow ((Below.refl _ _).alloc (Nat.le_refl _) _) (Nat.le_refl _) _
      have sz_g7 := hb_.size
      replace hS := hS.keep hb_
      replace hM := hM.row (fun _ h_ => keep hb_ h_)
      replace hw := Below.after hw hb_
      clear hb_ z_
      generalize ((wr.alloc (.cells (srow zsr) 52)).setRow wr.heap.size (srow (gs q k))) = w1 at *
      generalize wr.heap.size = g7 at *
      go_wp2_with (first | (refine wpList_load_want rfl 52 _ rfl (g7) rfl 52 (srow (gs q k)) (0, 0) _ R7 Tryd.underlying52 rfl (infoS hko) ?_) | fail)
      refine (a_labelOf (gs q k) hko w1).mono ?_
      rintro e_ w2 ⟨rfl, hb⟩
      replace R7 := keep hb R7
      replace hS := hS.keep hb
      replace hw := Below.after hw hb
      replace hM := hM.row (fun _ h_ => keep hb h_)
      have sz2 := hb.size
      clear hb
      have z_ := hp1_0 w2 (.cells (chc (zr 32) 0) 77)
      go_wp2_with (first | (refine wpList_alloc rfl 77 rfl (chc (zr 32) 0) zlb ?_) | (refine wpList_store_row rfl 77 _ _ rfl (w2.heap.size) (chc (gs q k).h (gs q k).n) rfl rfl 77 _ z_ (infoL _ hko.1 _) (by rw [chc_size _ (zr_len 32), chc_size _ hko.1]) (chc_one _ _) ?_; refine wpList_stay ?_) | fail)
      unfold WpStay
      try simp only [Act.put, List.setIfInBounds_toArray, List.set_cons_succ, List.set_cons_zero]
      have R8 := setRow_heap (w2.alloc (.cells (chc (zr 32) 0) 77)) w2.heap.size _ (chc (gs q k).h (gs q k).n) _ _ z_
      have hb_ : Below w2.heap.size w2 ((w2.alloc (.cells (chc (zr 32) 0) 77)).setRow w2.heap.size (chc (gs q k).h (gs q k).n)) := below_setRow ((Below.refl _ _).alloc (Nat.le_refl _) _) (Nat.le_refl _) _
      have sz_g8 := hb_.size
      have lt_R7_g8 := lt_of_row R7
      replace R7 := keep hb_ R7
      replace hS := hS.keep hb_
      replace hM := hM.row (fun _ h_ => keep hb_ h_)
      replace hw := Below.after hw hb_
      clear hb_ z_
      generalize ((w2.alloc (.cells (chc (zr 32) 0) 77)).setRow w2.heap.size (chc (gs q k).h (gs q k).n)) = w3 at *
      generalize w2.heap.size = g8 at *
      go_wp2_with (fail)
      have hbd : Below w3.heap.size w3 w3.drew := below_drN (Below.refl _ _) 1
      replace R7 := keep hbd R7
      replace R8 := keep hbd R8
      replace hS := hS.keep hbd
      replace hM := hM.row (fun _ h_ => keep hbd h_)
      replace hw := Below.after hw hbd
      clear hbd
      refine wp_region_noPanic ?_
      refine wp_region_held (S := fun W => Sto W base g b v most l ∧ W.heap[g8]? = some (.cells (chc (gs q k).h (gs q k).n) 77 (0, 0))) (by kernel_rfl) ?_
      change wpAnyH _ _ _ _ _ _ _ _ (World.drew _)
      generalize w3.drew = w4 at *
      refine wpAnyH_take (i := 0) (v := ?v1) rfl (by kernel_rfl) (by kernel_rfl) (by kernel_rfl) (fun _ _ _ h => h) (Or.inl ⟨by rfl, ?y1⟩) ⟨hS, R8⟩ ?r1
      case y1 =>
        intro w_ hS_
        go_simp
        try with_reducible rfl
      simp only [Act.put, List.getElem_toArray, List.getElem_cons_zero, List.setIfInBounds_toArray, List.set_cons_succ, List.set_cons_zero]
      refine wpAnyH_take (i := 1) (v := ?v2) rfl (by kernel_rfl) (by kernel_rfl) (by kernel_rfl) (fun _ _ _ h => h) (Or.inl ⟨by rfl, ?y2⟩) ⟨hS, R8⟩ ?r2
      case y2 =>
        intro w_ hS_
        go_simp
        try with_reducible rfl
      simp only [Act.put, List.getElem_toArray, List.getElem_cons_succ, List.getElem_cons_zero, List.setIfInBounds_toArray, List.set_cons_succ, List.set_cons_zero]
      refine wpAnyH_take (i := 2) (v := ?v3) rfl (by kernel_rfl) (by kernel_rfl) (by kernel_rfl) (fun _ _ _ h => h) (Or.inl ⟨by rfl, ?y3⟩) ⟨hS, R8⟩ ?r3
      case y3 =>
        intro w_ hS_
        go_simp
        try with_reducible rfl
      simp only [Act.put, List.getElem_toArray, List.getElem_cons_succ, List.getElem_cons_zero, List.setIfInBounds_toArray, List.set_cons_succ, List.set_cons_zero]
      refine wpAnyH_take (i := 3) (v := .map (some b)) rfl (by kernel_rfl) (by kernel_rfl) (by kernel_rfl) (fun _ _ _ h => h) (Or.inl ⟨by rfl, ?y4⟩) ⟨hS, R8⟩ ?r4
      case y4 =>
        intro w_ hS_
        have c_ := hS_.1.c2
        go_simp
        try with_reducible rfl
      simp only [Act.put, List.getElem_toArray, List.getElem_cons_succ, List.getElem_cons_zero, List.setIfInBounds_toArray, List.set_cons_succ, List.set_cons_zero]
      refine wpAnyH_take (i := 4) (v := .agg (chc (gs q k).h (gs q k).n)) rfl (by kernel_rfl) (by kernel_rfl) (by kernel_rfl) (fun _ _ _ h => h) (Or.inl ⟨by rfl, ?y5⟩) ⟨hS, R8⟩ ?r5
      case y5 =>
        intro w_ hS_
        simp only [List.getElem_toArray, List.getElem_cons_succ, List.getElem_cons_zero]
        exact run_load_part 77 _ (by rfl) (g8) 0 (by rfl) 77 (chc (gs q k).h (gs q k).n) (0, 0) (chc (gs q k).h (gs q k).n) _ (hS_.2) (all_row _) Tryd.underlying77 rfl (infoL _ hko.1 _)
      simp only [Act.put, List.getElem_toArray, List.getElem_cons_succ, List.getElem_cons_zero, List.setIfInBounds_toArray, List.set_cons_succ, List.set_cons_zero]
      refine wpAnyH_take (i := 5) (v := .tuple #[.agg (irow .u8 (fky l (gs q k).lb)), .bool (fnd l (gs q k).lb).isSome]) rfl (by kernel_rfl) (by kernel_rfl) (by kernel_rfl) (fun _ _ _ h => h) (Or.inl ⟨by rfl, ?y6⟩) ⟨hS, R8⟩ ?r6
      case y6 =>
        intro w_ hS_
        simp only [List.getElem_toArray, List.getElem_cons_succ, List.getElem_cons_zero]
        exact run_look_op 61 _ _ true (by rfl) _ (lenc (gs q k).lb) _ (by rfl) (by rfl) (look_sto hS_.1 (gs q k).lb hko.1)
      simp only [Act.put, List.getElem_toArray, List.getElem_cons_succ, List.getElem_cons_zero, List.setIfInBounds_toArray, List.set_cons_succ, List.set_cons_zero]
      refine wpAnyH_take (i := 6) (v := ?v7) rfl (by kernel_rfl) (by kernel_rfl) (by kernel_rfl) (fun _ _ _ h => h) (Or.inl ⟨by rfl, ?y7⟩) ⟨hS, R8⟩ ?r7
      case y7 =>
        intro w_ hS_
        go_simp
        try with_reducible rfl
      simp only [Act.put, List.getElem_toArray, List.getElem_cons_succ, List.getElem_cons_zero, List.setIfInBounds_toArray, List.set_cons_succ, List.set_cons_zero]
      refine wpAnyH_take (i := 7) (v := ?v8) rfl (by kernel_rfl) (by kernel_rfl) (by kernel_rfl) (fun _ _ _ h => h) (Or.inl ⟨by rfl, ?y8⟩) ⟨hS, R8⟩ ?r8
      case y8 =>
        intro w_ hS_
        go_simp
        try with_reducible rfl
      simp only [Act.put, List.getElem_toArray, List.getElem_cons_succ, List.getElem_cons_zero, List.setIfInBounds_toArray, List.set_cons_succ, List.set_cons_zero]
      refine wpAnyH_take (i := 8) (v := ?v9) rfl (by kernel_rfl) (by kernel_rfl) (by kernel_rfl) (fun _ _ _ h => h) (Or.inl ⟨by rfl, ?y9⟩) ⟨hS, R8⟩ ?r9
      case y9 =>
        intro w_ hS_
        go_simp
        try with_reducible rfl
      simp only [Act.put, List.getElem_toArray, List.getElem_cons_succ, List.getElem_cons_zero, List.setIfInBounds_toArray, List.set_cons_succ, List.set_cons_zero]
      refine wpAnyH_one (k := 9) (fuel := 2) (by kernel_rfl) rfl (by kernel_rfl) (fun K_ hK => ?_)
      refine wp_world_op _ _ (run_alloc_op 23 rfl _ zkey) ?_
      have hb_ : Below w4.heap.size w4 (w4.alloc (.cells (irow .u8 (zr 32)) 23)) := (Below.refl _ _).alloc (Nat.le_refl _) _
      have Rz := hp1_0 w4 (.cells (irow .u8 (zr 32)) 23)
      have sz_gz := hw.size
      have lt_R8_gz := lt_of_row R8
      replace R8 := keep hb_ R8
      replace hS := hS.keep hb_
      replace hM := hM.row (fun _ h_ => keep hb_ h_)
      replace hw := Below.after hw hb_
      clear hb_
      refine hK _ _ (⟨hS, R8⟩) ?_
      simp only [Act.put, List.getElem_toArray, List.getElem_cons_succ, List.getElem_cons_zero, List.setIfInBounds_toArray, List.set_cons_succ, List.set_cons_zero]
      clear hK
      generalize w4.alloc (.cells (irow .u8 (zr 32)) 23) = w5 at *
      generalize w4.heap.size = gz at *
      refine wpAnyH_one (k := 10) (fuel := 1) (by kernel_rfl) rfl (by kernel_rfl) (fun K_ hK => ?_)
      refine wp_store_row 23 _ _ rfl gz (irow .u8 (fky l (gs q k).lb)) rfl rfl 23 _ Rz (infok8 _ (fky_len hok _)) (fit32 _ _ (zr_len 32) (fky_len hok _)) (irow_one _ _) ?_
      replace R8 := (setRow_other w5 gz (g8) (irow .u8 (fky l (gs q k).lb)) (by omega)).trans R8
      replace hS := hS.move (V := w5.setRow gz (irow .u8 (fky l (gs q k).lb))) (fun j_ hj_ => setRow_other w5 gz j_ (irow .u8 (fky l (gs q k).lb)) (by have := hlo j_ hj_; omega))
      replace hM := hM.row (fun _ h_ => (setRow_other w5 gz w.heap.size (irow .u8 (fky l (gs q k).lb)) (by omega)).trans h_)
      replace Rz := setRow_heap w5 gz _ (irow .u8 (fky l (gs q k).lb)) _ _ Rz
      replace hw := below_setRow hw (show w.heap.size ≤ gz by omega) (irow .u8 (fky l (gs q k).lb))
      refine hK _ _ (⟨hS, R8⟩) ?_
      simp only [Act.put]
      clear hK
      generalize w5.setRow gz (irow .u8 (fky l (gs q k).lb)) = w6 at *
      refine wpAnyH_take (i := 11) (v := ?v10) rfl (by kernel_rfl) (by kernel_rfl) (by kernel_rfl) (fun _ _ _ h => h) (Or.inl ⟨by rfl, ?y10⟩) ⟨hS, R8⟩ ?r10
      case y10 =>
        intro w_ hS_
        go_simp
        try with_reducible rfl
      simp only [Act.put, List.getElem_toArray, List.getElem_cons_succ, List.getElem_cons_zero, List.setIfInBounds_toArray, List.set_cons_succ, List.set_cons_zero]
      refine wpAnyH_done (by kernel_rfl) ?_ _
      refine NoPanic.normal ?_
      have hb7 : Below w6.heap.size w6 (w6.alloc (.cells #[] 105)) := (Below.refl _ _).alloc (Nat.le_refl _) _
      have R9 := keep hb7 R8
      have hM9 : MapIs (w6.alloc (.cells #[] 105)) w.heap.size lenc (sen (q.take k)) := hM.row (fun _ h_ => keep hb7 h_)
      have hw9 := Below.after hw hb7
      have hlk := look_sen hM (hqo.take k) (gs q k).lb hko.1
      have hn1 : (fnd l (gs q k).lb).isSome = false → (plc (gs q k).lb ((q.take k).map Sr.lb)).isSome = false → Hid (((l ++ q.take (k + 1)).map Sr.lb).Nodup) := fun h1 h2 => hide (nod_snoc hlt hnd.out h1 h2)
      have hn2 : (fnd l (gs q k).lb).isSome = true → mts l q = true := fun h => not_nod hlt (.inl h)
      have hn3 : (plc (gs q k).lb ((q.take k).map Sr.lb)).isSome = true → mts l q = true := fun h => not_nod hlt (.inr h)
      have hn4 : (plc (gs q k).lb ((q.take k).map Sr.lb)).isSome = false → Hid ((gs q k).lb ∉ (sen (q.take k)).map (·.1)) := fun h => hide (by rw [sen_keys]; exact (plc_f _ _).1 h)
      have hs4 : Hid (sen (q.take (k + 1)) = sen (q.take k) ++ [((gs q k).lb, .agg #[])]) := hide (by rw [take_snocS q k hlt, sen, List.map_append]; rfl)
      generalize (fnd l (gs q k).lb).isSome = B1 at *
      generalize (plc (gs q k).lb ((q.take k).map Sr.lb)).isSome = B2 at *
      cases B1
      · cases B2
        · obtain ⟨o_, hru, hM2⟩ := run_updm kLb Tryd.underlying103 _ w.heap.size (sen (q.take k)) hM9 (sen_ok (hqo.take k)) (gs q k).lb hko.1 (.agg #[]) (hn4 rfl).out
          rw [← hs4.out] at hM2
          have hw8 := below_setBlock o_ hw9 (Nat.le_refl _)
          have nd := hn1 rfl rfl
          clear hn1 hn2 hn3 hn4 hs4 hM9 hM hnd hw9
          go_wp2_with (first | (refine wpList_alloc rfl 105 rfl #[] zun ?_) | (refine wpList_load_want rfl 77 _ rfl (g8) rfl 77 (chc (gs q k).h (gs q k).n) (0, 0) _ R8 Tryd.underlying77 rfl (infoL _ hko.1 _) ?_) | (refine wpList_load_want rfl 77 _ rfl (g8) rfl 77 (chc (gs q k).h (gs q k).n) (0, 0) _ R9 Tryd.underlying77 rfl (infoL _ hko.1 _) ?_) | (refine wpList_look rfl 103 _ _ true rfl _ (lenc (gs q k).lb) _ rfl rfl hlk ?_) | (refine wpList_build_as rfl 105 _ rfl [] rfl #[] bun ?_) | (refine wpList_upd rfl 103 _ _ _ rfl _ (lenc (gs q k).lb) (.agg #[]) rfl rfl rfl hru ?_) | fail)
          refine ⟨⟨k + 1, by omega, by go_num, nd, hw8, hM2⟩, ?_⟩
          simp [intOf]; omega
        · have hm := hn3 rfl
          clear hn1 hn2 hn3 hn4 hs4 hM9 hM hnd
          go_wp2_with (first | (refine wpList_alloc rfl 105 rfl #[] zun ?_) | (refine wpList_load_want rfl 77 _ rfl (g8) rfl 77 (chc (gs q k).h (gs q k).n) (0, 0) _ R8 Tryd.underlying77 rfl (infoL _ hko.1 _) ?_) | (refine wpList_look rfl 103 _ _ true rfl _ (lenc (gs q k).lb) _ rfl rfl hlk ?_) | fail)
          go_ret
          exact ⟨by rw [hm]; rfl, hw9⟩
      · have hm := hn2 rfl
        clear hn1 hn2 hn3 hn4 hs4 hM9 hM hnd
        go_wp2_with (first | (refine wpList_alloc rfl 105 rfl #[] zun ?_) | (refine wpList_load_want rfl 77 _ rfl (g8) rfl 77 (chc (gs q k).h (gs q k).n) (0, 0) _ R8 Tryd.underlying77 rfl (infoL _ hko.1 _) ?_) | (refine wpList_look rfl 103 _ _ true rfl _ (lenc (gs q k).lb) _ rfl rfl hlk ?_) | fail)
        go_ret
        exact ⟨by rw [hm]; rfl, hw9⟩
    · obtain rfl : k = q.length := by omega
      have hd : decide ((q.length : Int) < (q.length : Int)) = false := by simp
      rw [List.take_length] at hnd
      have hm : mts l q = false := mts_false.2 hnd.out
      go_wp2_with (fail)
      go_ret
      exact ⟨by rw [hm]; rfl, hw⟩

end Go.Proofs.YtjofbnilhkmpeaaDoor

namespace Go.Proofs.YtjofbnilhkmpeaaDoor
set_option maxRecDepth 100000
open Go Go.RowKit
/-! A region that draws its order, whose last operation waits for all others: every order of the others, then that one. The others may store. -/
/-- What is to hold ahead of the last operation. -/
def Ahead (P : Program) (L : List Oper) (o : Oper) (Q : Exit → Act → World → Prop) : Exit → Act → World → Prop
  | .normal, a, w => wpList P L.toArray Q [o] a w
  | e, a, w => Q e a w
section
variable {P : Program} {L : List Oper} {m : Nat} {o : Oper} {Q : Exit → Act → World → Prop}
theorem ahead_out (h : LetsOut (Ahead P L o Q)) : LetsOut Q := by
  obtain ⟨a, w, h⟩ := h
  exact ⟨a, w, h⟩
theorem ahead_wp {x : Oper} {a : Act} {w : World} {K : Act → World → Prop} (hh : x.wp P a w K (Ahead P L o Q)) : x.wp P a w K Q := by
  unfold Oper.wp at *
  generalize (execOp a.eval x).run P w = r at *
  cases r with
  | ok n w' =>
    cases n <;> simp only [Oper.upon] at hh ⊢ <;>
      first
        | exact hh
        | exact Calls.mono hh (fun e w'' he => by cases e <;> first | exact he | exact ahead_out he)
  | halt x w' => cases x <;> simp only [Oper.upon] at hh ⊢ <;> exact hh
theorem wpAny_of_last (h : L[m]? = some o) (hd : o.dst = none) (hg : o.guard = none) (hl : lastB L m = true) (hO : ordB L = true) :
    ∀ (fuel : Nat) (listed : Array Bool) (a : Act) (w : World), listed.size = L.length → Closed L listed → listed.getD m true = false →
      wpAny P .any (L.set m (idle o)).toArray (Ahead P L o Q) fuel listed a w → wpAny P .any L.toArray Q fuel listed a w := by
  have hml : m < L.length := (List.getElem?_eq_some_iff.1 h).1
  have hnil : ∀ listed : Array Bool, Region.ready .any (L.set m (idle o)).toArray listed = [] ↔ Region.ready .any L.toArray listed = [] := by
    intro listed
    rw [List.eq_nil_iff_forall_not_mem, List.eq_nil_iff_forall_not_mem]
    exact forall_congr' fun i => not_congr (mem_ready_idle h)
  intro fuel
  induction fuel with
  | zero =>
    intro listed a w hs _ hun H
    exact absurd ((hnil _).1 H.1) (ready_some hO hs m hml hun)
  | succ fuel ih =>
    intro listed a w hs hc hun H
    refine ⟨fun h0 => absurd h0 (ready_some hO hs m hml hun), fun i hi => ?_⟩
    have hq := H.2 i ((mem_ready_idle h).2 hi)
    by_cases e : m = i
    · subst e
      have hn := ready_none hO hl hc hi
      unfold wpOp at hq
      rw [idle_at h, if_pos rfl] at hq
      have hwant : Region.wanted (idle o) (yielded (L.set m (idle o)).toArray a.tmps) = true := by simp [Region.wanted, idle, hg]
      simp only [hwant, if_true] at hq
      have hrun : (execOp a.eval (idle o)).run P w = .ok (.value undef) w := by simp [idle, execOp, Act.eval]
      have hK : wpAny P .any (L.set m (idle o)).toArray (Ahead P L o Q) fuel (listed.setIfInBounds m true) a w := by
        rcases hq with hq | hq
        · unfold Oper.wp at hq
          rw [hrun, Oper.upon_value] at hq
          have hput : a.put (idle o).dst undef = a := by simp [idle, hd, Act.put]
          rwa [hput] at hq
        · exact absurd hq.1 (by
            simp [Oper.asks, idle, execOp, Act.eval]
            intro hm_
            have e_ : Sem.events P (pure (Next.value undef)) w #[] = #[] := rfl
            rw [e_] at hm_
            simp at hm_)
      have h1 : wpList P L.toArray Q [o] a w := by
        cases fuel with
        | zero => exact hK.2
        | succ f => exact hK.1 ((hnil _).2 hn)
      unfold wpOp
      have ho : L.toArray[m]? = some o := by simpa using h
      simp only [ho]
      have hwant' : Region.wanted o (yielded L.toArray a.tmps) = true := by simp [Region.wanted, hg]
      simp only [wpList, hwant', if_true] at h1
      simp only [hwant', if_true]
      refine h1.imp_left fun h2 => Oper.wp_mono (fun a'' w'' h3 => ?_) h2
      cases fuel with
      | zero => exact ⟨hn, h3⟩
      | succ f => exact ⟨fun _ => h3, fun i hi => by rw [hn] at hi; cases hi⟩
    · have ihK : ∀ a' w', wpAny P .any (L.set m (idle o)).toArray (Ahead P L o Q) fuel (listed.setIfInBounds i true) a' w' → wpAny P .any L.toArray Q fuel (listed.setIfInBounds i true) a' w' :=
        fun a' w' hk => ih _ a' w' (by simpa using hs) (hc.set hi) (by rw [getD_set_ne true (Ne.symm e)]; exact hun) hk
      unfold wpOp at hq ⊢
      rw [idle_at h, if_neg e, yielded_idle h] at hq
      cases hx : L.toArray[i]? with
      | none => simp only [hx] at hq ⊢; exact ihK _ _ hq
      | some x =>
        simp only [hx] at hq ⊢
        split
        · rename_i hw
          rw [if_pos hw] at hq
          rcases hq with hq | ⟨hq, hq2⟩
          · exact .inl (Oper.wp_mono ihK (ahead_wp hq))
          · exact .inr ⟨hq, ahead_out hq2⟩
        · rename_i hw
          rw [if_neg hw] at hq
          exact ihK _ _ hq
/-- **EVERY ORDER OF THE OTHERS, THEN THE LAST OPERATION.** -/
theorem wp_region_last {id : Nat} {a : Act} {w : World} (m : Nat) (o : Oper) (h : L[m]? = some o) (hd : o.dst = none) (hg : o.guard = none) (hm : P.follows .mixedOrders = true)
    (hl : lastB L m = true) (hO : ordB L = true)
    (hany : wpAny P .any (L.set m (idle o)).toArray (Ahead P L o Q) (L.set m (idle o)).toArray.size (Array.replicate (L.set m (idle o)).toArray.size false) a { w with drawn := w.drawn + 1 }) : (Code.region id L.toArray true).wp P Q a w := by
  have hml : m < L.length := (List.getElem?_eq_some_iff.1 h).1
  have hsz : (L.set m (idle o)).toArray.size = L.toArray.size := by simp
  rw [hsz] at hany
  exact wp_region_any hm (wpAny_of_last h hd hg hl hO _ _ _ _ (by simp) (fun k x hx hk => by simp only [Array.getD_eq_getD_getElem?, Array.getElem?_replicate] at hk; split at hk <;> simp at hk) (by simp [hml]) hany)
end
end Go.Proofs.YtjofbnilhkmpeaaDoor
