import Derived.Test.YtgfeacnhdlgpoaaDoorProg
import Derived.WalkKit
import Derived.WalkSpells
import Derived.WalkLawsBesides
import Derived.Lib.QuietBelow
import Derived.BigQuiet
import Derived.OrdersHeld
import Derived.OwnWalk
import Derived.Deep.RegionHeld3
import Derived.Deep.Cut
import Derived.Deep.CutRange
import Derived.Test.YtgfeacnhdlgpoaaDoorTyc
import Derived.Test.YtgfeacnhdlgpoaaDoorTrw
namespace Go.Proofs.YtgfeacnhdlgpoaaDoor
set_option maxRecDepth 100000
open Go Go.RowKit Go.Sort
attribute [local go_sem] setCell_drewN alloc_drewN
theorem conv_byT {W : World} {v : Value} {bs : List Int} (h : Bys W v bs) : (convert 22 9 v).run Tryd.prog W = .ok (.string (strOfNums bs)) W := by
  obtain ⟨ao, cap, rfl, _, hc, _⟩ := h
  cases ao with
  | none =>
    have : bs = [] := by
      cases bs with
      | nil => rfl
      | cons x xs => obtain ⟨b, off, e, _⟩ := hc 0 (by simp); cases e
    subst this
    exact run_convert_bytes_nil W 22 5 Tryd.underlying22 Tryd.underlying5 _ _ 9 Tryd.underlying9
  | some ad =>
    rcases Nat.eq_zero_or_pos bs.length with e0 | e0
    · have : bs = [] := List.eq_nil_of_length_eq_zero e0
      subst this
      obtain ⟨b, off, sp⟩ := ad
      rw [run_convert_bytes_string W 22 9 5 _ _ _ Tryd.underlying22 Tryd.underlying5 Tryd.underlying9]
      have := run_bytesToString (P := Tryd.prog) W ⟨b, off, sp⟩ 0 cap [] (by rfl)
      exact this
    · obtain ⟨b, off, e, _⟩ := hc 0 e0
      cases e
      exact run_convert_bytes_arg W 22 5 Tryd.underlying22 Tryd.underlying5 b off bs.length cap bs rfl (fun i hi => by
        obtain ⟨b', off', e, _, h⟩ := hc i hi
        cases e
        exact h) 9 Tryd.underlying9
theorem str_injT {a b : List Int} (ha : ∀ z ∈ a, 0 ≤ z ∧ z < 256) (hb : ∀ z ∈ b, 0 ≤ z ∧ z < 256) (h : strOfNums a = strOfNums b) : a = b := by
  have h1 := congrArg (fun x => x.data.toList) h
  simp only [strOfNums_data] at h1
  have key : ∀ (a b : List Int), (∀ z ∈ a, 0 ≤ z ∧ z < 256) → (∀ z ∈ b, 0 ≤ z ∧ z < 256) → a.map (fun n => UInt8.ofNat n.toNat) = b.map (fun n => UInt8.ofNat n.toNat) → a = b := by
    intro a
    induction a with
    | nil => intro b _ _ h; cases b with
      | nil => rfl
      | cons y ys => simp at h
    | cons x xs ih => intro b ha hb h; cases b with
      | nil => simp at h
      | cons y ys =>
        simp only [List.map_cons, List.cons.injEq] at h
        have hx := ha x (by simp)
        have hy := hb y (by simp)
        have e := congrArg UInt8.toNat h.1
        simp only [UInt8.toNat_ofNat'] at e
        rw [Nat.mod_eq_of_lt (by omega), Nat.mod_eq_of_lt (by omega)] at e
        have exy : x = y := by omega
        rw [exy, ih ys (fun z h => ha z (by simp [h])) (fun z h => hb z (by simp [h])) h.2]
  exact key a b ha hb h1
theorem bytes_of {a b : ByteArray} (h : a.toList = b.toList) : a = b := by
  rw [ByteArray.toList_eq, ByteArray.toList_eq] at h
  exact Go.WideShapes.bytes_inj h
theorem op_convT {o : Oper} {a : Act} {W : World} (x : Operand) (ho : o.op = .convert 22 9 x) (v : Value) (hx : a.eval x = v) (bs : List Int) (h : Bys W v bs) : (execOp a.eval o).run Tryd.prog W = .ok (.value (.string (strOfNums bs))) W := by
  have := conv_byT h
  unfold execOp
  simp only [ho, hx, Sem.run_bind, Sem.run_pure, this, Result.andThen_ok]
theorem op_neqstrT {o : Oper} {a : Act} {W : World} (x y : Operand) (ho : o.op = .binOp .neq 9 x y 9) (A B : ByteArray) (hx : a.eval x = .string A) (hy : a.eval y = .string B) (e : Bool) (he : (A.toList == B.toList) = e) : (execOp a.eval o).run Tryd.prog W = .ok (.value (.bool (!e))) W := by
  subst he
  unfold execOp
  simp only [ho, hx, hy, Sem.run_bind, Sem.run_pure]
  simp [Go.binOp, Op.stringOp, eqGuard]
/-- Texts: bytes, not many. -/
def Tok (ts : List (List Int)) : Prop := ∀ t ∈ ts, t.length ≤ 1000 ∧ ∀ z ∈ t, 0 ≤ z ∧ z < 256
theorem Tok.at {ts : List (List Int)} (h : Tok ts) {k : Nat} (hk : k < ts.length) : (ts.getD k []).length ≤ 1000 ∧ ∀ z ∈ ts.getD k [], 0 ≤ z ∧ z < 256 := h _ (by rw [List.getD_eq_getElem?_getD, List.getElem?_eq_getElem hk]; exact List.getElem_mem _)
theorem OwnT.at {W : World} {b g : Nat} {cap n : Nat} {ts : List (List Int)} (h : OwnT W b (.slice (some ⟨g, 0, none⟩) n cap) ts) {k : Nat} (hk : k < ts.length) : ∃ ao c, W.cell? ⟨g, k, none⟩ = some (.slice ao (ts.getD k []).length c) ∧ OwnI W b (.slice ao (ts.getD k []).length c) (ts.getD k []) := by
  obtain ⟨vs, ⟨h1, ⟨e, _⟩ | ⟨g', cap', cur, e, hb, hg, hn, hm, hcs, ht⟩⟩, h3⟩ := h
  · cases e
  · cases e
    have hl : k < vs.length := by omega
    have hv := h3 k vs[k] (List.getElem?_eq_getElem hl)
    obtain ⟨ao, c, e2⟩ := slen_own hv
    rw [e2] at hv
    refine ⟨ao, c, ?_, hv⟩
    rw [cell_of_row _ _ _ _ _ _ hg, ← Array.getElem?_toList, ← e2, ← List.getElem?_eq_getElem hl, ← ht, List.getElem?_take_of_lt (by omega)]
theorem OwnT.ptr {W : World} {b : Nat} {v : Value} {ts : List (List Int)} (h : OwnT W b v ts) (h0 : 0 < ts.length) : ∃ g cap, v = .slice (some ⟨g, 0, none⟩) ts.length cap := by
  obtain ⟨vs, ⟨h1, ⟨rfl, e⟩ | ⟨g', cap', cur, e, _⟩⟩, h3⟩ := h
  · omega
  · exact ⟨g', cap', e⟩
theorem map_take_succ (ts : List (List Int)) (k : Nat) (hk : k < ts.length) : (ts.take (k + 1)).map sumL = (ts.take k).map sumL ++ [sumL (ts.getD k [])] := by
  rw [List.take_add_one, List.map_append, List.getElem?_eq_getElem hk, List.getD_eq_getElem?_getD, List.getElem?_eq_getElem hk]; rfl
theorem sums_ok (ts : List (List Int)) : Kok (ts.map sumL) := fun k hk => by
  obtain ⟨t, _, rfl⟩ := List.mem_map.1 hk
  exact Ky.sum t
theorem sums_at (ts : List (List Int)) {k : Nat} (hk : k < ts.length) : (ts.map sumL).getD k [] = sumL (ts.getD k []) := by
  rw [List.getD_eq_getElem?_getD, List.getElem?_map, List.getElem?_eq_getElem hk, List.getD_eq_getElem?_getD, List.getElem?_eq_getElem hk]; rfl
/-- The two at i and j clash. -/
def Clp (ts : List (List Int)) (i j : Nat) : Prop := sumL (ts.getD i []) = sumL (ts.getD j []) ∧ ts.getD i [] ≠ ts.getD j []
theorem clp_of {ts : List (List Int)} (h : Clh sumL ts) : ∃ i j, j < i ∧ i < ts.length ∧ Clp ts i j := by
  obtain ⟨a, b, ha, hb, e, hn⟩ := h
  obtain ⟨i, hi, ei⟩ := List.mem_iff_getElem.1 ha
  obtain ⟨j, hj, ej⟩ := List.mem_iff_getElem.1 hb
  have gi : ts.getD i [] = a := by rw [List.getD_eq_getElem?_getD, List.getElem?_eq_getElem hi, ei]; rfl
  have gj : ts.getD j [] = b := by rw [List.getD_eq_getElem?_getD, List.getElem?_eq_getElem hj, ej]; rfl
  rcases Nat.lt_trichotomy i j with h | h | h
  · exact ⟨j, i, h, hj, by unfold Clp; rw [gi, gj]; exact ⟨e.symm, fun q => hn q.symm⟩⟩
  · subst h; exact absurd (gi.symm.trans gj) hn
  · exact ⟨i, j, h, hi, by unfold Clp; rw [gi, gj]; exact ⟨e, hn⟩⟩
set_option maxRecDepth 100000 in
set_option maxHeartbeats 8000000 in
theorem r_Clash (ts : List (List Int)) (hC : Hid (∃ i j, j < i ∧ i < ts.length ∧ Clp ts i j)) (hok : Tok ts) (hl : ts.length ≤ 300000) (w : World) (b : Nat) (v : Value) (hT : OwnT w b v ts) : Calls Tryd.prog 37 #[v] w fun e w' => e = .returned (.bool true) ∧ Below w.heap.size w w' := by
  have hpos : 0 < ts.length := by obtain ⟨i, j, _, h, _⟩ := hC.out; omega
  obtain ⟨g, cap, rfl⟩ := hT.ptr hpos
  have hO : OwnK (w.alloc (.cells #[] 24)) w.heap.size (.slice (some ⟨w.heap.size, 0, none⟩) 0 0) [] := OwnK.empty w (Nat.le_refl _)
  have hw0 : Below w.heap.size w (w.alloc (.cells #[] 24)) := (Below.refl _ _).alloc (Nat.le_refl _) _
  go_enter Tryd.func37, Tryd.ntmps37
  go_wp2_with (fail)
  go_loopw [3, 4] (fun s i wr => ∃ k : Nat, k ≤ ts.length ∧ i = .int .i64 k ∧ OwnK wr w.heap.size s ((ts.take k).map sumL) ∧ Below w.heap.size w wr) (fun _ i _ => ts.length - (intOf i).toNat)
  case atStart => exact ⟨0, by omega, rfl, hO, hw0⟩
  case round =>
    obtain ⟨k, hk, rfl, hS, hw⟩ := hrel
    obtain ⟨so, sc, es, _, _⟩ := hS.slc
    by_cases hlt : k < ts.length
    · have hd : decide ((k : Int) < (ts.length : Int)) = true := by simp; omega
      obtain ⟨ao, c, hc, hI⟩ := (hT.keep hw).at hlt
      have hB := hI.bys (by have := (hok.at hlt).1; omega) (hok.at hlt).2
      have hnl := hI.nilc
      have hl1 := (hok.at hlt).1
      have e0 := hide (map_take_succ ts k hlt)
      have hll : ((ts.take k).map sumL).length ≤ 400000 := by rw [List.length_map, List.length_take]; omega
      generalize (ts.take k).map sumL = SS at *
      generalize hX : ts.getD k [] = X at *
      have hX' := hide hX
      clear hX hI
      generalize SS.length = sl at es
      subst es
      generalize X.length = xl at hc hB hnl
      generalize ts.length = L at *
      go_wp2_with (fail)
      refine (r_sum X _ _ ⟨hB, by omega, hnl⟩).mono ?_
      rintro e_ w2 ⟨rfl, hb⟩
      replace hS := hS.keep hb
      replace hw := Below.after hw hb
      clear hb hB hnl hc
      have rg := hp1_0 w2 (.cells (irow .u8 (sumL X)) 24)
      have hb : Below w2.heap.size w2 (w2.alloc (.cells (irow .u8 (sumL X)) 24)) := (Below.refl _ _).alloc (Nat.le_refl _) _
      replace hS := hS.keep hb
      replace hw := Below.after hw hb
      clear hb
      go_wp2_with (first | (refine wpList_bslK rfl _ rfl (sumL X) (sumL_len _) rfl ?_) | (at_builtin; refine wpList_append_K rfl (.tmp 14) (.tmp 20) rfl w.heap.size _ SS rfl hS w2.heap.size (sumL X) (sumL_len _) rfl rg (by omega) hw.size ?_))
      intro v3 w3 hS3 hgr _
      replace hw := hw.grown hgr hw.size (fun j e => (hS.lt j e).1)
      go_wp2_with (fail)
      refine ⟨⟨k + 1, by omega, by go_num, ?_, hw⟩, ?_⟩
      · rw [e0.out]; exact hS3
      · simp [intOf]; omega
    · obtain rfl : k = ts.length := by omega
      have hd : decide ((ts.length : Int) < (ts.length : Int)) = false := by simp
      rw [List.take_length] at hS
      have hSk := hS.ksl (sums_ok ts) (by rw [List.length_map]; omega)
      have hwz := hw
      clear hS hO hw0
      rw [List.length_map] at es
      subst es
      generalize hLl : ts.length = L at *
      generalize wr = wS at *
      go_wp2_with (fail)
      go_loopw [5] (fun i wq => ∃ a : Nat, a ≤ L ∧ i = .int .i64 a ∧ Hid (∀ i' j', i' < a → j' < i' → ¬ Clp ts i' j') ∧ Below w.heap.size w wq ∧ Below wS.heap.size wS wq) (fun i _ => L - (intOf i).toNat)
      case atStart => exact ⟨0, by omega, rfl, hide (fun i' j' h => by omega), hwz, Below.refl _ _⟩
      case round =>
        obtain ⟨a, ha, rfl, hno, hwa, hwb⟩ := hrel
        by_cases hlt2 : a < L
        · have hd2 : decide ((a : Int) < (L : Int)) = true := by simp; omega
          go_wp2_with (fail)
          go_loopw [6] (fun j wq2 => ∃ q : Nat, q ≤ a ∧ j = .int .i64 q ∧ Hid (∀ j', j' < q → ¬ Clp ts a j') ∧ Below w.heap.size w wq2 ∧ Below wS.heap.size wS wq2) (fun j _ => a - (intOf j).toNat)
          case atStart => exact ⟨0, by omega, rfl, hide (fun j' h => by omega), hwa, hwb⟩
          case round =>
            obtain ⟨q, hq, rfl, hno2, hwc, hwd⟩ := hrel
            by_cases hlt3 : q < a
            · have hd3 : decide ((q : Int) < (a : Int)) = true := by simp; omega
              have la : a < ts.length := by omega
              have lq : q < ts.length := by omega
              obtain ⟨_, _, e, _, _, _, _, hp⟩ := hSk.keep hwd
              rw [List.length_map] at e
              injection e with e1 e2 e3
              subst e1 e3
              obtain ⟨g1, o1, cs1, t1, f1, rfl, r1, x1⟩ := hp a (by rw [List.length_map]; omega)
              obtain ⟨g2, o2, cs2, t2, f2, e5, r2, x2⟩ := hp q (by rw [List.length_map]; omega)
              cases e5
              rw [sums_at ts la] at x1
              rw [sums_at ts lq] at x2
              obtain ⟨ua, ca, k1, hI1⟩ := (hT.keep hwc).at la
              obtain ⟨uq, cq, k2, hI2⟩ := (hT.keep hwc).at lq
              have y1 := hI1.bys (by have := (hok.at la).1; omega) (hok.at la).2
              have y2 := hI2.bys (by have := (hok.at lq).1; omega) (hok.at lq).2
              have cA := (hok.at la).2
              have cQ := (hok.at lq).2
              have hnx : ∀ j', j' < q → ¬ Clp ts a j' := hno2.out
              have hcl : Hid (Clp ts a q ↔ sumL (ts.getD a []) = sumL (ts.getD q []) ∧ ts.getD a [] ≠ ts.getD q []) := hide Iff.rfl
              have hno' := hide hnx
              clear hnx hno2 hp hI1 hI2 e2
              have es0 := eqK _ _ (sumL_len (ts.getD a [])) (sumL_len (ts.getD q []))
              generalize ts.getD a [] = TA at *
              generalize ts.getD q [] = TQ at *
              generalize TA.length = na at k1 y1
              generalize TQ.length = nq at k2 y2
              obtain ⟨es, hes⟩ : ∃ es, decide (sumL TA = sumL TQ) = es := ⟨_, rfl⟩
              rw [hes] at es0
              have hes' := hide hes
              clear hes
              obtain ⟨et, het⟩ : ∃ et, ((strOfNums TA).toList == (strOfNums TQ).toList) = et := ⟨_, rfl⟩
              have het' := hide het
              have j1 : (a : Int) < (L : Int) := by omega
              have j2 : (q : Int) < (L : Int) := by omega
              go_wp2_with (fail)
              cases es
              · skip
                have hb : Below wr.heap.size wr wr.drew := below_drN (Below.refl _ _) 1
                replace r1 := keep hb r1
                replace r2 := keep hb r2
                replace k1 := keepc hb k1
                replace k2 := keepc hb k2
                replace y1 := y1.keep hb
                replace y2 := y2.keep hb
                replace hwc := Below.after hwc hb
                replace hwd := Below.after hwd hb
                clear hb
                refine wp_region_noPanic ?_
                refine wp_region_held (S := fun W_ => W_.heap[g1]? = some (.cells cs1 t1 f1) ∧ W_.heap[g1]? = some (.cells cs2 t2 f2) ∧ W_.cell? ⟨g, a, none⟩ = some (.slice ua na ca) ∧ W_.cell? ⟨g, q, none⟩ = some (.slice uq nq cq) ∧ Bys W_ (.slice ua na ca) TA ∧ Bys W_ (.slice uq nq cq) TQ) (by kernel_rfl) ?_
                change wpAnyH _ _ _ _ _ _ _ _ (World.drew _)
                generalize wr.drew = wd9 at *
                refine wpAnyH_take (i := 0) (v := ?v10) rfl (by kernel_rfl) (by kernel_rfl) (by kernel_rfl) (fun _ _ _ h => h) (Or.inl ⟨by rfl, ?y10⟩) (⟨r1, r2, k1, k2, y1, y2⟩) ?r10
                case y10 =>
                  intro w_ hS_
                  go_simp
                  try with_reducible rfl
                simp only [Act.put, List.getElem_toArray, List.getElem_cons_zero, List.setIfInBounds_toArray, List.set_cons_succ, List.set_cons_zero]
                refine wpAnyH_take (i := 1) (v := ?v11) rfl (by kernel_rfl) (by kernel_rfl) (by kernel_rfl) (fun _ _ _ h => h) (Or.inl ⟨by rfl, ?y11⟩) (⟨r1, r2, k1, k2, y1, y2⟩) ?r11
                case y11 =>
                  intro w_ hS_
                  go_simp
                  try with_reducible rfl
                simp only [Act.put, List.getElem_toArray, List.getElem_cons_succ, List.getElem_cons_zero, List.setIfInBounds_toArray, List.set_cons_succ, List.set_cons_zero]
                refine wpAnyH_take (i := 2) (v := ?v12) rfl (by kernel_rfl) (by kernel_rfl) (by kernel_rfl) (fun _ _ _ h => h) (Or.inl ⟨by rfl, ?y12⟩) (⟨r1, r2, k1, k2, y1, y2⟩) ?r12
                case y12 =>
                  intro w_ hS_
                  go_simp
                  try with_reducible rfl
                simp only [Act.put, List.getElem_toArray, List.getElem_cons_succ, List.getElem_cons_zero, List.setIfInBounds_toArray, List.set_cons_succ, List.set_cons_zero]
                refine wpAnyH_take (i := 3) (v := .agg (irow .u8 (sumL TA))) rfl (by kernel_rfl) (by kernel_rfl) (by kernel_rfl) (fun _ _ _ h => h) (Or.inl ⟨by rfl, ?y13⟩) (⟨r1, r2, k1, k2, y1, y2⟩) ?r13
                case y13 =>
                  intro w_ hS_
                  simp only [List.getElem_toArray, List.getElem_cons_succ, List.getElem_cons_zero]
                  exact e_load_part 24 _ (by rfl) g1 (o1 + a * 32) (by rfl) t1 cs1 f1 (irow .u8 (sumL TA)) _ (hS_.1) x1 Tryd.underlying24 rfl (infok8 _ (sumL_len _))
                simp only [Act.put, List.getElem_toArray, List.getElem_cons_succ, List.getElem_cons_zero, List.setIfInBounds_toArray, List.set_cons_succ, List.set_cons_zero]
                refine wpAnyH_take (i := 4) (v := ?v14) rfl (by kernel_rfl) (by kernel_rfl) (by kernel_rfl) (fun _ _ _ h => h) (Or.inl ⟨by rfl, ?y14⟩) (⟨r1, r2, k1, k2, y1, y2⟩) ?r14
                case y14 =>
                  intro w_ hS_
                  go_simp
                  try with_reducible rfl
                simp only [Act.put, List.getElem_toArray, List.getElem_cons_succ, List.getElem_cons_zero, List.setIfInBounds_toArray, List.set_cons_succ, List.set_cons_zero]
                refine wpAnyH_take (i := 5) (v := ?v15) rfl (by kernel_rfl) (by kernel_rfl) (by kernel_rfl) (fun _ _ _ h => h) (Or.inl ⟨by rfl, ?y15⟩) (⟨r1, r2, k1, k2, y1, y2⟩) ?r15
                case y15 =>
                  intro w_ hS_
                  go_simp
                  try with_reducible rfl
                simp only [Act.put, List.getElem_toArray, List.getElem_cons_succ, List.getElem_cons_zero, List.setIfInBounds_toArray, List.set_cons_succ, List.set_cons_zero]
                refine wpAnyH_take (i := 6) (v := ?v16) rfl (by kernel_rfl) (by kernel_rfl) (by kernel_rfl) (fun _ _ _ h => h) (Or.inl ⟨by rfl, ?y16⟩) (⟨r1, r2, k1, k2, y1, y2⟩) ?r16
                case y16 =>
                  intro w_ hS_
                  go_simp
                  try with_reducible rfl
                simp only [Act.put, List.getElem_toArray, List.getElem_cons_succ, List.getElem_cons_zero, List.setIfInBounds_toArray, List.set_cons_succ, List.set_cons_zero]
                refine wpAnyH_take (i := 7) (v := .agg (irow .u8 (sumL TQ))) rfl (by kernel_rfl) (by kernel_rfl) (by kernel_rfl) (fun _ _ _ h => h) (Or.inl ⟨by rfl, ?y17⟩) (⟨r1, r2, k1, k2, y1, y2⟩) ?r17
                case y17 =>
                  intro w_ hS_
                  simp only [List.getElem_toArray, List.getElem_cons_succ, List.getElem_cons_zero]
                  exact e_load_part 24 _ (by rfl) g1 (o1 + q * 32) (by rfl) t2 cs2 f2 (irow .u8 (sumL TQ)) _ (hS_.2.1) x2 Tryd.underlying24 rfl (infok8 _ (sumL_len _))
                simp only [Act.put, List.getElem_toArray, List.getElem_cons_succ, List.getElem_cons_zero, List.setIfInBounds_toArray, List.set_cons_succ, List.set_cons_zero]
                refine wpAnyH_take (i := 8) (v := ?v18) rfl (by kernel_rfl) (by kernel_rfl) (by kernel_rfl) (fun _ _ _ h => h) (Or.inl ⟨by rfl, ?y18⟩) (⟨r1, r2, k1, k2, y1, y2⟩) ?r18
                case y18 =>
                  intro w_ hS_
                  go_simp
                  try with_reducible rfl
                simp only [Act.put, List.getElem_toArray, List.getElem_cons_succ, List.getElem_cons_zero, List.setIfInBounds_toArray, List.set_cons_succ, List.set_cons_zero]
                refine wpAnyH_take (i := 9) (v := ?v19) rfl (by kernel_rfl) (by kernel_rfl) (by kernel_rfl) (fun _ _ _ h => h) (Or.inl ⟨by rfl, ?y19⟩) (⟨r1, r2, k1, k2, y1, y2⟩) ?r19
                case y19 =>
                  intro w_ hS_
                  go_simp
                  try with_reducible rfl
                simp only [Act.put, List.getElem_toArray, List.getElem_cons_succ, List.getElem_cons_zero, List.setIfInBounds_toArray, List.set_cons_succ, List.set_cons_zero]
                refine wpAnyH_take (i := 10) (v := undef) rfl (by kernel_rfl) (by kernel_rfl) (by kernel_rfl) (fun _ _ _ h => h) (Or.inr ⟨by rfl, rfl⟩) (⟨r1, r2, k1, k2, y1, y2⟩) ?_
                simp only [Act.put, List.getElem_toArray, List.getElem_cons_succ, List.getElem_cons_zero, List.setIfInBounds_toArray, List.set_cons_succ, List.set_cons_zero]
                refine wpAnyH_take (i := 11) (v := undef) rfl (by kernel_rfl) (by kernel_rfl) (by kernel_rfl) (fun _ _ _ h => h) (Or.inr ⟨by rfl, rfl⟩) (⟨r1, r2, k1, k2, y1, y2⟩) ?_
                simp only [Act.put, List.getElem_toArray, List.getElem_cons_succ, List.getElem_cons_zero, List.setIfInBounds_toArray, List.set_cons_succ, List.set_cons_zero]
                refine wpAnyH_take (i := 12) (v := undef) rfl (by kernel_rfl) (by kernel_rfl) (by kernel_rfl) (fun _ _ _ h => h) (Or.inr ⟨by rfl, rfl⟩) (⟨r1, r2, k1, k2, y1, y2⟩) ?_
                simp only [Act.put, List.getElem_toArray, List.getElem_cons_succ, List.getElem_cons_zero, List.setIfInBounds_toArray, List.set_cons_succ, List.set_cons_zero]
                refine wpAnyH_take (i := 13) (v := undef) rfl (by kernel_rfl) (by kernel_rfl) (by kernel_rfl) (fun _ _ _ h => h) (Or.inr ⟨by rfl, rfl⟩) (⟨r1, r2, k1, k2, y1, y2⟩) ?_
                simp only [Act.put, List.getElem_toArray, List.getElem_cons_succ, List.getElem_cons_zero, List.setIfInBounds_toArray, List.set_cons_succ, List.set_cons_zero]
                refine wpAnyH_take (i := 14) (v := undef) rfl (by kernel_rfl) (by kernel_rfl) (by kernel_rfl) (fun _ _ _ h => h) (Or.inr ⟨by rfl, rfl⟩) (⟨r1, r2, k1, k2, y1, y2⟩) ?_
                simp only [Act.put, List.getElem_toArray, List.getElem_cons_succ, List.getElem_cons_zero, List.setIfInBounds_toArray, List.set_cons_succ, List.set_cons_zero]
                refine wpAnyH_take (i := 15) (v := undef) rfl (by kernel_rfl) (by kernel_rfl) (by kernel_rfl) (fun _ _ _ h => h) (Or.inr ⟨by rfl, rfl⟩) (⟨r1, r2, k1, k2, y1, y2⟩) ?_
                simp only [Act.put, List.getElem_toArray, List.getElem_cons_succ, List.getElem_cons_zero, List.setIfInBounds_toArray, List.set_cons_succ, List.set_cons_zero]
                refine wpAnyH_take (i := 16) (v := undef) rfl (by kernel_rfl) (by kernel_rfl) (by kernel_rfl) (fun _ _ _ h => h) (Or.inr ⟨by rfl, rfl⟩) (⟨r1, r2, k1, k2, y1, y2⟩) ?_
                simp only [Act.put, List.getElem_toArray, List.getElem_cons_succ, List.getElem_cons_zero, List.setIfInBounds_toArray, List.set_cons_succ, List.set_cons_zero]
                refine wpAnyH_take (i := 17) (v := undef) rfl (by kernel_rfl) (by kernel_rfl) (by kernel_rfl) (fun _ _ _ h => h) (Or.inr ⟨by rfl, rfl⟩) (⟨r1, r2, k1, k2, y1, y2⟩) ?_
                simp only [Act.put, List.getElem_toArray, List.getElem_cons_succ, List.getElem_cons_zero, List.setIfInBounds_toArray, List.set_cons_succ, List.set_cons_zero]
                refine wpAnyH_take (i := 18) (v := undef) rfl (by kernel_rfl) (by kernel_rfl) (by kernel_rfl) (fun _ _ _ h => h) (Or.inr ⟨by rfl, rfl⟩) (⟨r1, r2, k1, k2, y1, y2⟩) ?_
                simp only [Act.put, List.getElem_toArray, List.getElem_cons_succ, List.getElem_cons_zero, List.setIfInBounds_toArray, List.set_cons_succ, List.set_cons_zero]
                refine wpAnyH_take (i := 19) (v := undef) rfl (by kernel_rfl) (by kernel_rfl) (by kernel_rfl) (fun _ _ _ h => h) (Or.inr ⟨by rfl, rfl⟩) (⟨r1, r2, k1, k2, y1, y2⟩) ?_
                simp only [Act.put, List.getElem_toArray, List.getElem_cons_succ, List.getElem_cons_zero, List.setIfInBounds_toArray, List.set_cons_succ, List.set_cons_zero]
                refine wpAnyH_take (i := 20) (v := undef) rfl (by kernel_rfl) (by kernel_rfl) (by kernel_rfl) (fun _ _ _ h => h) (Or.inr ⟨by rfl, rfl⟩) (⟨r1, r2, k1, k2, y1, y2⟩) ?_
                simp only [Act.put, List.getElem_toArray, List.getElem_cons_succ, List.getElem_cons_zero, List.setIfInBounds_toArray, List.set_cons_succ, List.set_cons_zero]
                refine wpAnyH_take (i := 21) (v := ?v31) rfl (by kernel_rfl) (by kernel_rfl) (by kernel_rfl) (fun _ _ _ h => h) (Or.inl ⟨by rfl, ?y31⟩) (⟨r1, r2, k1, k2, y1, y2⟩) ?r31
                case y31 =>
                  intro w_ hS_
                  go_simp
                  try with_reducible rfl
                simp only [Act.put, List.getElem_toArray, List.getElem_cons_succ, List.getElem_cons_zero, List.setIfInBounds_toArray, List.set_cons_succ, List.set_cons_zero]
                refine wpAnyH_done (by kernel_rfl) ?_ _
                refine NoPanic.normal ?_
                go_wp2_with (fail)
                refine ⟨⟨q + 1, by omega, by go_num, hide (fun j' h => ?_), hwc, hwd⟩, ?_⟩
                · rcases Nat.lt_or_ge j' q with h3 | h3
                  · exact hno'.out j' h3
                  · obtain rfl : j' = q := by omega
                    intro hcc
                    have := (hcl.out.1 hcc).1
                    exact of_decide_eq_false hes'.out this
                · simp [intOf]; omega
              · skip
                clear het
                cases et
                · skip
                  have hb : Below wr.heap.size wr wr.drew := below_drN (Below.refl _ _) 1
                  replace r1 := keep hb r1
                  replace r2 := keep hb r2
                  replace k1 := keepc hb k1
                  replace k2 := keepc hb k2
                  replace y1 := y1.keep hb
                  replace y2 := y2.keep hb
                  replace hwc := Below.after hwc hb
                  replace hwd := Below.after hwd hb
                  clear hb
                  refine wp_region_noPanic ?_
                  refine wp_region_held (S := fun W_ => W_.heap[g1]? = some (.cells cs1 t1 f1) ∧ W_.heap[g1]? = some (.cells cs2 t2 f2) ∧ W_.cell? ⟨g, a, none⟩ = some (.slice ua na ca) ∧ W_.cell? ⟨g, q, none⟩ = some (.slice uq nq cq) ∧ Bys W_ (.slice ua na ca) TA ∧ Bys W_ (.slice uq nq cq) TQ) (by kernel_rfl) ?_
                  change wpAnyH _ _ _ _ _ _ _ _ (World.drew _)
                  generalize wr.drew = wd32 at *
                  refine wpAnyH_take (i := 0) (v := ?v33) rfl (by kernel_rfl) (by kernel_rfl) (by kernel_rfl) (fun _ _ _ h => h) (Or.inl ⟨by rfl, ?y33⟩) (⟨r1, r2, k1, k2, y1, y2⟩) ?r33
                  case y33 =>
                    intro w_ hS_
                    go_simp
                    try with_reducible rfl
                  simp only [Act.put, List.getElem_toArray, List.getElem_cons_zero, List.setIfInBounds_toArray, List.set_cons_succ, List.set_cons_zero]
                  refine wpAnyH_take (i := 1) (v := ?v34) rfl (by kernel_rfl) (by kernel_rfl) (by kernel_rfl) (fun _ _ _ h => h) (Or.inl ⟨by rfl, ?y34⟩) (⟨r1, r2, k1, k2, y1, y2⟩) ?r34
                  case y34 =>
                    intro w_ hS_
                    go_simp
                    try with_reducible rfl
                  simp only [Act.put, List.getElem_toArray, List.getElem_cons_succ, List.getElem_cons_zero, List.setIfInBounds_toArray, List.set_cons_succ, List.set_cons_zero]
                  refine wpAnyH_take (i := 2) (v := ?v35) rfl (by kernel_rfl) (by kernel_rfl) (by kernel_rfl) (fun _ _ _ h => h) (Or.inl ⟨by rfl, ?y35⟩) (⟨r1, r2, k1, k2, y1, y2⟩) ?r35
                  case y35 =>
                    intro w_ hS_
                    go_simp
                    try with_reducible rfl
                  simp only [Act.put, List.getElem_toArray, List.getElem_cons_succ, List.getElem_cons_zero, List.setIfInBounds_toArray, List.set_cons_succ, List.set_cons_zero]
                  refine wpAnyH_take (i := 3) (v := .agg (irow .u8 (sumL TA))) rfl (by kernel_rfl) (by kernel_rfl) (by kernel_rfl) (fun _ _ _ h => h) (Or.inl ⟨by rfl, ?y36⟩) (⟨r1, r2, k1, k2, y1, y2⟩) ?r36
                  case y36 =>
                    intro w_ hS_
                    simp only [List.getElem_toArray, List.getElem_cons_succ, List.getElem_cons_zero]
                    exact e_load_part 24 _ (by rfl) g1 (o1 + a * 32) (by rfl) t1 cs1 f1 (irow .u8 (sumL TA)) _ (hS_.1) x1 Tryd.underlying24 rfl (infok8 _ (sumL_len _))
                  simp only [Act.put, List.getElem_toArray, List.getElem_cons_succ, List.getElem_cons_zero, List.setIfInBounds_toArray, List.set_cons_succ, List.set_cons_zero]
                  refine wpAnyH_take (i := 4) (v := ?v37) rfl (by kernel_rfl) (by kernel_rfl) (by kernel_rfl) (fun _ _ _ h => h) (Or.inl ⟨by rfl, ?y37⟩) (⟨r1, r2, k1, k2, y1, y2⟩) ?r37
                  case y37 =>
                    intro w_ hS_
                    go_simp
                    try with_reducible rfl
                  simp only [Act.put, List.getElem_toArray, List.getElem_cons_succ, List.getElem_cons_zero, List.setIfInBounds_toArray, List.set_cons_succ, List.set_cons_zero]
                  refine wpAnyH_take (i := 5) (v := ?v38) rfl (by kernel_rfl) (by kernel_rfl) (by kernel_rfl) (fun _ _ _ h => h) (Or.inl ⟨by rfl, ?y38⟩) (⟨r1, r2, k1, k2, y1, y2⟩) ?r38
                  case y38 =>
                    intro w_ hS_
                    go_simp
                    try with_reducible rfl
                  simp only [Act.put, List.getElem_toArray, List.getElem_cons_succ, List.getElem_cons_zero, List.setIfInBounds_toArray, List.set_cons_succ, List.set_cons_zero]
                  refine wpAnyH_take (i := 6) (v := ?v39) rfl (by kernel_rfl) (by kernel_rfl) (by kernel_rfl) (fun _ _ _ h => h) (Or.inl ⟨by rfl, ?y39⟩) (⟨r1, r2, k1, k2, y1, y2⟩) ?r39
                  case y39 =>
                    intro w_ hS_
                    go_simp
                    try with_reducible rfl
                  simp only [Act.put, List.getElem_toArray, List.getElem_cons_succ, List.getElem_cons_zero, List.setIfInBounds_toArray, List.set_cons_succ, List.set_cons_zero]
                  refine wpAnyH_take (i := 7) (v := .agg (irow .u8 (sumL TQ))) rfl (by kernel_rfl) (by kernel_rfl) (by kernel_rfl) (fun _ _ _ h => h) (Or.inl ⟨by rfl, ?y40⟩) (⟨r1, r2, k1, k2, y1, y2⟩) ?r40
                  case y40 =>
                    intro w_ hS_
                    simp only [List.getElem_toArray, List.getElem_cons_succ, List.getElem_cons_zero]
                    exact e_load_part 24 _ (by rfl) g1 (o1 + q * 32) (by rfl) t2 cs2 f2 (irow .u8 (sumL TQ)) _ (hS_.2.1) x2 Tryd.underlying24 rfl (infok8 _ (sumL_len _))
                  simp only [Act.put, List.getElem_toArray, List.getElem_cons_succ, List.getElem_cons_zero, List.setIfInBounds_toArray, List.set_cons_succ, List.set_cons_zero]
                  refine wpAnyH_take (i := 8) (v := ?v41) rfl (by kernel_rfl) (by kernel_rfl) (by kernel_rfl) (fun _ _ _ h => h) (Or.inl ⟨by rfl, ?y41⟩) (⟨r1, r2, k1, k2, y1, y2⟩) ?r41
                  case y41 =>
                    intro w_ hS_
                    go_simp
                    try with_reducible rfl
                  simp only [Act.put, List.getElem_toArray, List.getElem_cons_succ, List.getElem_cons_zero, List.setIfInBounds_toArray, List.set_cons_succ, List.set_cons_zero]
                  refine wpAnyH_take (i := 9) (v := ?v42) rfl (by kernel_rfl) (by kernel_rfl) (by kernel_rfl) (fun _ _ _ h => h) (Or.inl ⟨by rfl, ?y42⟩) (⟨r1, r2, k1, k2, y1, y2⟩) ?r42
                  case y42 =>
                    intro w_ hS_
                    go_simp
                    try with_reducible rfl
                  simp only [Act.put, List.getElem_toArray, List.getElem_cons_succ, List.getElem_cons_zero, List.setIfInBounds_toArray, List.set_cons_succ, List.set_cons_zero]
                  refine wpAnyH_take (i := 10) (v := ?v43) rfl (by kernel_rfl) (by kernel_rfl) (by kernel_rfl) (fun _ _ _ h => h) (Or.inl ⟨by rfl, ?y43⟩) (⟨r1, r2, k1, k2, y1, y2⟩) ?r43
                  case y43 =>
                    intro w_ hS_
                    go_simp
                    try with_reducible rfl
                  simp only [Act.put, List.getElem_toArray, List.getElem_cons_succ, List.getElem_cons_zero, List.setIfInBounds_toArray, List.set_cons_succ, List.set_cons_zero]
                  refine wpAnyH_take (i := 11) (v := ?v44) rfl (by kernel_rfl) (by kernel_rfl) (by kernel_rfl) (fun _ _ _ h => h) (Or.inl ⟨by rfl, ?y44⟩) (⟨r1, r2, k1, k2, y1, y2⟩) ?r44
                  case y44 =>
                    intro w_ hS_
                    go_simp
                    try with_reducible rfl
                  simp only [Act.put, List.getElem_toArray, List.getElem_cons_succ, List.getElem_cons_zero, List.setIfInBounds_toArray, List.set_cons_succ, List.set_cons_zero]
                  refine wpAnyH_take (i := 12) (v := ?v45) rfl (by kernel_rfl) (by kernel_rfl) (by kernel_rfl) (fun _ _ _ h => h) (Or.inl ⟨by rfl, ?y45⟩) (⟨r1, r2, k1, k2, y1, y2⟩) ?r45
                  case y45 =>
                    intro w_ hS_
                    go_simp
                    try with_reducible rfl
                  simp only [Act.put, List.getElem_toArray, List.getElem_cons_succ, List.getElem_cons_zero, List.setIfInBounds_toArray, List.set_cons_succ, List.set_cons_zero]
                  refine wpAnyH_take (i := 13) (v := .slice ua na ca) rfl (by kernel_rfl) (by kernel_rfl) (by kernel_rfl) (fun _ _ _ h => h) (Or.inl ⟨by rfl, ?y46⟩) (⟨r1, r2, k1, k2, y1, y2⟩) ?r46
                  case y46 =>
                    intro w_ hS_
                    obtain ⟨z1, z2, z3, z4, z5, z6⟩ := hS_
                    go_simp
                    try with_reducible rfl
                  simp only [Act.put, List.getElem_toArray, List.getElem_cons_succ, List.getElem_cons_zero, List.setIfInBounds_toArray, List.set_cons_succ, List.set_cons_zero]
                  refine wpAnyH_take (i := 14) (v := .string (strOfNums TA)) rfl (by kernel_rfl) (by kernel_rfl) (by kernel_rfl) (fun _ _ _ h => h) (Or.inl ⟨by rfl, ?y47⟩) (⟨r1, r2, k1, k2, y1, y2⟩) ?r47
                  case y47 =>
                    intro w_ hS_
                    simp only [List.getElem_toArray, List.getElem_cons_succ, List.getElem_cons_zero]
                    exact op_convT _ (by rfl) (.slice ua na ca) (by rfl) TA (hS_.2.2.2.2.1)
                  simp only [Act.put, List.getElem_toArray, List.getElem_cons_succ, List.getElem_cons_zero, List.setIfInBounds_toArray, List.set_cons_succ, List.set_cons_zero]
                  refine wpAnyH_take (i := 15) (v := ?v48) rfl (by kernel_rfl) (by kernel_rfl) (by kernel_rfl) (fun _ _ _ h => h) (Or.inl ⟨by rfl, ?y48⟩) (⟨r1, r2, k1, k2, y1, y2⟩) ?r48
                  case y48 =>
                    intro w_ hS_
                    go_simp
                    try with_reducible rfl
                  simp only [Act.put, List.getElem_toArray, List.getElem_cons_succ, List.getElem_cons_zero, List.setIfInBounds_toArray, List.set_cons_succ, List.set_cons_zero]
                  refine wpAnyH_take (i := 16) (v := ?v49) rfl (by kernel_rfl) (by kernel_rfl) (by kernel_rfl) (fun _ _ _ h => h) (Or.inl ⟨by rfl, ?y49⟩) (⟨r1, r2, k1, k2, y1, y2⟩) ?r49
                  case y49 =>
                    intro w_ hS_
                    go_simp
                    try with_reducible rfl
                  simp only [Act.put, List.getElem_toArray, List.getElem_cons_succ, List.getElem_cons_zero, List.setIfInBounds_toArray, List.set_cons_succ, List.set_cons_zero]
                  refine wpAnyH_take (i := 17) (v := ?v50) rfl (by kernel_rfl) (by kernel_rfl) (by kernel_rfl) (fun _ _ _ h => h) (Or.inl ⟨by rfl, ?y50⟩) (⟨r1, r2, k1, k2, y1, y2⟩) ?r50
                  case y50 =>
                    intro w_ hS_
                    go_simp
                    try with_reducible rfl
                  simp only [Act.put, List.getElem_toArray, List.getElem_cons_succ, List.getElem_cons_zero, List.setIfInBounds_toArray, List.set_cons_succ, List.set_cons_zero]
                  refine wpAnyH_take (i := 18) (v := .slice uq nq cq) rfl (by kernel_rfl) (by kernel_rfl) (by kernel_rfl) (fun _ _ _ h => h) (Or.inl ⟨by rfl, ?y51⟩) (⟨r1, r2, k1, k2, y1, y2⟩) ?r51
                  case y51 =>
                    intro w_ hS_
                    obtain ⟨z1, z2, z3, z4, z5, z6⟩ := hS_
                    go_simp
                    try with_reducible rfl
                  simp only [Act.put, List.getElem_toArray, List.getElem_cons_succ, List.getElem_cons_zero, List.setIfInBounds_toArray, List.set_cons_succ, List.set_cons_zero]
                  refine wpAnyH_take (i := 19) (v := .string (strOfNums TQ)) rfl (by kernel_rfl) (by kernel_rfl) (by kernel_rfl) (fun _ _ _ h => h) (Or.inl ⟨by rfl, ?y52⟩) (⟨r1, r2, k1, k2, y1, y2⟩) ?r52
                  case y52 =>
                    intro w_ hS_
                    simp only [List.getElem_toArray, List.getElem_cons_succ, List.getElem_cons_zero]
                    exact op_convT _ (by rfl) (.slice uq nq cq) (by rfl) TQ (hS_.2.2.2.2.2)
                  simp only [Act.put, List.getElem_toArray, List.getElem_cons_succ, List.getElem_cons_zero, List.setIfInBounds_toArray, List.set_cons_succ, List.set_cons_zero]
                  refine wpAnyH_take (i := 20) (v := .bool true) rfl (by kernel_rfl) (by kernel_rfl) (by kernel_rfl) (fun _ _ _ h => h) (Or.inl ⟨by rfl, ?y53⟩) (⟨r1, r2, k1, k2, y1, y2⟩) ?r53
                  case y53 =>
                    intro w_ hS_
                    simp only [List.getElem_toArray, List.getElem_cons_succ, List.getElem_cons_zero]
                    exact op_neqstrT _ _ (by rfl) (strOfNums TA) (strOfNums TQ) (by rfl) (by rfl) false het'.out
                  simp only [Act.put, List.getElem_toArray, List.getElem_cons_succ, List.getElem_cons_zero, List.setIfInBounds_toArray, List.set_cons_succ, List.set_cons_zero]
                  refine wpAnyH_take (i := 21) (v := ?v54) rfl (by kernel_rfl) (by kernel_rfl) (by kernel_rfl) (fun _ _ _ h => h) (Or.inl ⟨by rfl, ?y54⟩) (⟨r1, r2, k1, k2, y1, y2⟩) ?r54
                  case y54 =>
                    intro w_ hS_
                    go_simp
                    try with_reducible rfl
                  simp only [Act.put, List.getElem_toArray, List.getElem_cons_succ, List.getElem_cons_zero, List.setIfInBounds_toArray, List.set_cons_succ, List.set_cons_zero]
                  refine wpAnyH_done (by kernel_rfl) ?_ _
                  refine NoPanic.normal ?_
                  go_wp2_with (fail)
                  go_ret
                  exact ⟨rfl, hwc⟩
                · skip
                  have hb : Below wr.heap.size wr wr.drew := below_drN (Below.refl _ _) 1
                  replace r1 := keep hb r1
                  replace r2 := keep hb r2
                  replace k1 := keepc hb k1
                  replace k2 := keepc hb k2
                  replace y1 := y1.keep hb
                  replace y2 := y2.keep hb
                  replace hwc := Below.after hwc hb
                  replace hwd := Below.after hwd hb
                  clear hb
                  refine wp_region_noPanic ?_
                  refine wp_region_held (S := fun W_ => W_.heap[g1]? = some (.cells cs1 t1 f1) ∧ W_.heap[g1]? = some (.cells cs2 t2 f2) ∧ W_.cell? ⟨g, a, none⟩ = some (.slice ua na ca) ∧ W_.cell? ⟨g, q, none⟩ = some (.slice uq nq cq) ∧ Bys W_ (.slice ua na ca) TA ∧ Bys W_ (.slice uq nq cq) TQ) (by kernel_rfl) ?_
                  change wpAnyH _ _ _ _ _ _ _ _ (World.drew _)
                  generalize wr.drew = wd55 at *
                  refine wpAnyH_take (i := 0) (v := ?v56) rfl (by kernel_rfl) (by kernel_rfl) (by kernel_rfl) (fun _ _ _ h => h) (Or.inl ⟨by rfl, ?y56⟩) (⟨r1, r2, k1, k2, y1, y2⟩) ?r56
                  case y56 =>
                    intro w_ hS_
                    go_simp
                    try with_reducible rfl
                  simp only [Act.put, List.getElem_toArray, List.getElem_cons_zero, List.setIfInBounds_toArray, List.set_cons_succ, List.set_cons_zero]
                  refine wpAnyH_take (i := 1) (v := ?v57) rfl (by kernel_rfl) (by kernel_rfl) (by kernel_rfl) (fun _ _ _ h => h) (Or.inl ⟨by rfl, ?y57⟩) (⟨r1, r2, k1, k2, y1, y2⟩) ?r57
                  case y57 =>
                    intro w_ hS_
                    go_simp
                    try with_reducible rfl
                  simp only [Act.put, List.getElem_toArray, List.getElem_cons_succ, List.getElem_cons_zero, List.setIfInBounds_toArray, List.set_cons_succ, List.set_cons_zero]
                  refine wpAnyH_take (i := 2) (v := ?v58) rfl (by kernel_rfl) (by kernel_rfl) (by kernel_rfl) (fun _ _ _ h => h) (Or.inl ⟨by rfl, ?y58⟩) (⟨r1, r2, k1, k2, y1, y2⟩) ?r58
                  case y58 =>
                    intro w_ hS_
                    go_simp
                    try with_reducible rfl
                  simp only [Act.put, List.getElem_toArray, List.getElem_cons_succ, List.getElem_cons_zero, List.setIfInBounds_toArray, List.set_cons_succ, List.set_cons_zero]
                  refine wpAnyH_take (i := 3) (v := .agg (irow .u8 (sumL TA))) rfl (by kernel_rfl) (by kernel_rfl) (by kernel_rfl) (fun _ _ _ h => h) (Or.inl ⟨by rfl, ?y59⟩) (⟨r1, r2, k1, k2, y1, y2⟩) ?r59
                  case y59 =>
                    intro w_ hS_
                    simp only [List.getElem_toArray, List.getElem_cons_succ, List.getElem_cons_zero]
                    exact e_load_part 24 _ (by rfl) g1 (o1 + a * 32) (by rfl) t1 cs1 f1 (irow .u8 (sumL TA)) _ (hS_.1) x1 Tryd.underlying24 rfl (infok8 _ (sumL_len _))
                  simp only [Act.put, List.getElem_toArray, List.getElem_cons_succ, List.getElem_cons_zero, List.setIfInBounds_toArray, List.set_cons_succ, List.set_cons_zero]
                  refine wpAnyH_take (i := 4) (v := ?v60) rfl (by kernel_rfl) (by kernel_rfl) (by kernel_rfl) (fun _ _ _ h => h) (Or.inl ⟨by rfl, ?y60⟩) (⟨r1, r2, k1, k2, y1, y2⟩) ?r60
                  case y60 =>
                    intro w_ hS_
                    go_simp
                    try with_reducible rfl
                  simp only [Act.put, List.getElem_toArray, List.getElem_cons_succ, List.getElem_cons_zero, List.setIfInBounds_toArray, List.set_cons_succ, List.set_cons_zero]
                  refine wpAnyH_take (i := 5) (v := ?v61) rfl (by kernel_rfl) (by kernel_rfl) (by kernel_rfl) (fun _ _ _ h => h) (Or.inl ⟨by rfl, ?y61⟩) (⟨r1, r2, k1, k2, y1, y2⟩) ?r61
                  case y61 =>
                    intro w_ hS_
                    go_simp
                    try with_reducible rfl
                  simp only [Act.put, List.getElem_toArray, List.getElem_cons_succ, List.getElem_cons_zero, List.setIfInBounds_toArray, List.set_cons_succ, List.set_cons_zero]
                  refine wpAnyH_take (i := 6) (v := ?v62) rfl (by kernel_rfl) (by kernel_rfl) (by kernel_rfl) (fun _ _ _ h => h) (Or.inl ⟨by rfl, ?y62⟩) (⟨r1, r2, k1, k2, y1, y2⟩) ?r62
                  case y62 =>
                    intro w_ hS_
                    go_simp
                    try with_reducible rfl
                  simp only [Act.put, List.getElem_toArray, List.getElem_cons_succ, List.getElem_cons_zero, List.setIfInBounds_toArray, List.set_cons_succ, List.set_cons_zero]
                  refine wpAnyH_take (i := 7) (v := .agg (irow .u8 (sumL TQ))) rfl (by kernel_rfl) (by kernel_rfl) (by kernel_rfl) (fun _ _ _ h => h) (Or.inl ⟨by rfl, ?y63⟩) (⟨r1, r2, k1, k2, y1, y2⟩) ?r63
                  case y63 =>
                    intro w_ hS_
                    simp only [List.getElem_toArray, List.getElem_cons_succ, List.getElem_cons_zero]
                    exact e_load_part 24 _ (by rfl) g1 (o1 + q * 32) (by rfl) t2 cs2 f2 (irow .u8 (sumL TQ)) _ (hS_.2.1) x2 Tryd.underlying24 rfl (infok8 _ (sumL_len _))
                  simp only [Act.put, List.getElem_toArray, List.getElem_cons_succ, List.getElem_cons_zero, List.setIfInBounds_toArray, List.set_cons_succ, List.set_cons_zero]
                  refine wpAnyH_take (i := 8) (v := ?v64) rfl (by kernel_rfl) (by kernel_rfl) (by kernel_rfl) (fun _ _ _ h => h) (Or.inl ⟨by rfl, ?y64⟩) (⟨r1, r2, k1, k2, y1, y2⟩) ?r64
                  case y64 =>
                    intro w_ hS_
                    go_simp
                    try with_reducible rfl
                  simp only [Act.put, List.getElem_toArray, List.getElem_cons_succ, List.getElem_cons_zero, List.setIfInBounds_toArray, List.set_cons_succ, List.set_cons_zero]
                  refine wpAnyH_take (i := 9) (v := ?v65) rfl (by kernel_rfl) (by kernel_rfl) (by kernel_rfl) (fun _ _ _ h => h) (Or.inl ⟨by rfl, ?y65⟩) (⟨r1, r2, k1, k2, y1, y2⟩) ?r65
                  case y65 =>
                    intro w_ hS_
                    go_simp
                    try with_reducible rfl
                  simp only [Act.put, List.getElem_toArray, List.getElem_cons_succ, List.getElem_cons_zero, List.setIfInBounds_toArray, List.set_cons_succ, List.set_cons_zero]
                  refine wpAnyH_take (i := 10) (v := ?v66) rfl (by kernel_rfl) (by kernel_rfl) (by kernel_rfl) (fun _ _ _ h => h) (Or.inl ⟨by rfl, ?y66⟩) (⟨r1, r2, k1, k2, y1, y2⟩) ?r66
                  case y66 =>
                    intro w_ hS_
                    go_simp
                    try with_reducible rfl
                  simp only [Act.put, List.getElem_toArray, List.getElem_cons_succ, List.getElem_cons_zero, List.setIfInBounds_toArray, List.set_cons_succ, List.set_cons_zero]
                  refine wpAnyH_take (i := 11) (v := ?v67) rfl (by kernel_rfl) (by kernel_rfl) (by kernel_rfl) (fun _ _ _ h => h) (Or.inl ⟨by rfl, ?y67⟩) (⟨r1, r2, k1, k2, y1, y2⟩) ?r67
                  case y67 =>
                    intro w_ hS_
                    go_simp
                    try with_reducible rfl
                  simp only [Act.put, List.getElem_toArray, List.getElem_cons_succ, List.getElem_cons_zero, List.setIfInBounds_toArray, List.set_cons_succ, List.set_cons_zero]
                  refine wpAnyH_take (i := 12) (v := ?v68) rfl (by kernel_rfl) (by kernel_rfl) (by kernel_rfl) (fun _ _ _ h => h) (Or.inl ⟨by rfl, ?y68⟩) (⟨r1, r2, k1, k2, y1, y2⟩) ?r68
                  case y68 =>
                    intro w_ hS_
                    go_simp
                    try with_reducible rfl
                  simp only [Act.put, List.getElem_toArray, List.getElem_cons_succ, List.getElem_cons_zero, List.setIfInBounds_toArray, List.set_cons_succ, List.set_cons_zero]
                  refine wpAnyH_take (i := 13) (v := .slice ua na ca) rfl (by kernel_rfl) (by kernel_rfl) (by kernel_rfl) (fun _ _ _ h => h) (Or.inl ⟨by rfl, ?y69⟩) (⟨r1, r2, k1, k2, y1, y2⟩) ?r69
                  case y69 =>
                    intro w_ hS_
                    obtain ⟨z1, z2, z3, z4, z5, z6⟩ := hS_
                    go_simp
                    try with_reducible rfl
                  simp only [Act.put, List.getElem_toArray, List.getElem_cons_succ, List.getElem_cons_zero, List.setIfInBounds_toArray, List.set_cons_succ, List.set_cons_zero]
                  refine wpAnyH_take (i := 14) (v := .string (strOfNums TA)) rfl (by kernel_rfl) (by kernel_rfl) (by kernel_rfl) (fun _ _ _ h => h) (Or.inl ⟨by rfl, ?y70⟩) (⟨r1, r2, k1, k2, y1, y2⟩) ?r70
                  case y70 =>
                    intro w_ hS_
                    simp only [List.getElem_toArray, List.getElem_cons_succ, List.getElem_cons_zero]
                    exact op_convT _ (by rfl) (.slice ua na ca) (by rfl) TA (hS_.2.2.2.2.1)
                  simp only [Act.put, List.getElem_toArray, List.getElem_cons_succ, List.getElem_cons_zero, List.setIfInBounds_toArray, List.set_cons_succ, List.set_cons_zero]
                  refine wpAnyH_take (i := 15) (v := ?v71) rfl (by kernel_rfl) (by kernel_rfl) (by kernel_rfl) (fun _ _ _ h => h) (Or.inl ⟨by rfl, ?y71⟩) (⟨r1, r2, k1, k2, y1, y2⟩) ?r71
                  case y71 =>
                    intro w_ hS_
                    go_simp
                    try with_reducible rfl
                  simp only [Act.put, List.getElem_toArray, List.getElem_cons_succ, List.getElem_cons_zero, List.setIfInBounds_toArray, List.set_cons_succ, List.set_cons_zero]
                  refine wpAnyH_take (i := 16) (v := ?v72) rfl (by kernel_rfl) (by kernel_rfl) (by kernel_rfl) (fun _ _ _ h => h) (Or.inl ⟨by rfl, ?y72⟩) (⟨r1, r2, k1, k2, y1, y2⟩) ?r72
                  case y72 =>
                    intro w_ hS_
                    go_simp
                    try with_reducible rfl
                  simp only [Act.put, List.getElem_toArray, List.getElem_cons_succ, List.getElem_cons_zero, List.setIfInBounds_toArray, List.set_cons_succ, List.set_cons_zero]
                  refine wpAnyH_take (i := 17) (v := ?v73) rfl (by kernel_rfl) (by kernel_rfl) (by kernel_rfl) (fun _ _ _ h => h) (Or.inl ⟨by rfl, ?y73⟩) (⟨r1, r2, k1, k2, y1, y2⟩) ?r73
                  case y73 =>
                    intro w_ hS_
                    go_simp
                    try with_reducible rfl
                  simp only [Act.put, List.getElem_toArray, List.getElem_cons_succ, List.getElem_cons_zero, List.setIfInBounds_toArray, List.set_cons_succ, List.set_cons_zero]
                  refine wpAnyH_take (i := 18) (v := .slice uq nq cq) rfl (by kernel_rfl) (by kernel_rfl) (by kernel_rfl) (fun _ _ _ h => h) (Or.inl ⟨by rfl, ?y74⟩) (⟨r1, r2, k1, k2, y1, y2⟩) ?r74
                  case y74 =>
                    intro w_ hS_
                    obtain ⟨z1, z2, z3, z4, z5, z6⟩ := hS_
                    go_simp
                    try with_reducible rfl
                  simp only [Act.put, List.getElem_toArray, List.getElem_cons_succ, List.getElem_cons_zero, List.setIfInBounds_toArray, List.set_cons_succ, List.set_cons_zero]
                  refine wpAnyH_take (i := 19) (v := .string (strOfNums TQ)) rfl (by kernel_rfl) (by kernel_rfl) (by kernel_rfl) (fun _ _ _ h => h) (Or.inl ⟨by rfl, ?y75⟩) (⟨r1, r2, k1, k2, y1, y2⟩) ?r75
                  case y75 =>
                    intro w_ hS_
                    simp only [List.getElem_toArray, List.getElem_cons_succ, List.getElem_cons_zero]
                    exact op_convT _ (by rfl) (.slice uq nq cq) (by rfl) TQ (hS_.2.2.2.2.2)
                  simp only [Act.put, List.getElem_toArray, List.getElem_cons_succ, List.getElem_cons_zero, List.setIfInBounds_toArray, List.set_cons_succ, List.set_cons_zero]
                  refine wpAnyH_take (i := 20) (v := .bool false) rfl (by kernel_rfl) (by kernel_rfl) (by kernel_rfl) (fun _ _ _ h => h) (Or.inl ⟨by rfl, ?y76⟩) (⟨r1, r2, k1, k2, y1, y2⟩) ?r76
                  case y76 =>
                    intro w_ hS_
                    simp only [List.getElem_toArray, List.getElem_cons_succ, List.getElem_cons_zero]
                    exact op_neqstrT _ _ (by rfl) (strOfNums TA) (strOfNums TQ) (by rfl) (by rfl) true het'.out
                  simp only [Act.put, List.getElem_toArray, List.getElem_cons_succ, List.getElem_cons_zero, List.setIfInBounds_toArray, List.set_cons_succ, List.set_cons_zero]
                  refine wpAnyH_take (i := 21) (v := ?v77) rfl (by kernel_rfl) (by kernel_rfl) (by kernel_rfl) (fun _ _ _ h => h) (Or.inl ⟨by rfl, ?y77⟩) (⟨r1, r2, k1, k2, y1, y2⟩) ?r77
                  case y77 =>
                    intro w_ hS_
                    go_simp
                    try with_reducible rfl
                  simp only [Act.put, List.getElem_toArray, List.getElem_cons_succ, List.getElem_cons_zero, List.setIfInBounds_toArray, List.set_cons_succ, List.set_cons_zero]
                  refine wpAnyH_done (by kernel_rfl) ?_ _
                  refine NoPanic.normal ?_
                  go_wp2_with (fail)
                  refine ⟨⟨q + 1, by omega, by go_num, hide (fun j' h => ?_), hwc, hwd⟩, ?_⟩
                  · rcases Nat.lt_or_ge j' q with h3 | h3
                    · exact hno'.out j' h3
                    · obtain rfl : j' = q := by omega
                      intro hcc
                      exact (hcl.out.1 hcc).2 (str_injT cA cQ (bytes_of (by simpa using het'.out)))
                  · simp [intOf]; omega
            · obtain rfl : q = a := by omega
              have hd3 : decide ((q : Int) < (q : Int)) = false := by simp
              have hno3 : ∀ i' j', i' < q + 1 → j' < i' → ¬ Clp ts i' j' := fun i' j' h1 h2 => by
                rcases Nat.lt_or_ge i' q with h3 | h3
                · exact hno.out i' j' h3 h2
                · obtain rfl : i' = q := by omega
                  exact hno2.out j' h2
              have hno4 := hide hno3
              clear hno3 hno hno2
              go_wp2_with (fail)
              refine ⟨⟨q + 1, by omega, by go_num, hno4, hwc, hwd⟩, ?_⟩
              simp [intOf]; omega
        · exfalso
          obtain ⟨i, j, h1, h2, h3⟩ := hC.out
          exact hno.out i j (by omega) h1 h3

end Go.Proofs.YtgfeacnhdlgpoaaDoor
