import Derived.Test.YtmcokphkaekdaabDoorProg
import Derived.WalkKit
import Derived.WalkSpells
import Derived.WalkLawsBesides
import Derived.Lib.QuietBelow
import Derived.BigQuiet
import Derived.Test.YtmcokphkaekdaabDoorS0
import Derived.Test.YtmcokphkaekdaabDoorS2
import Derived.Deep.RegionLaw
import Derived.Deep.RegionHeld3
import Derived.Laws.BytesArg
import Derived.OwnWalk
namespace Go.Proofs.YtmcokphkaekdaabDoor
open Go Go.RowKit Go.Sort
attribute [local go_sem] setCell_drewN alloc_drewN

theorem zr_get (n j : Nat) : (zr n).getD j 0 = 0 := by
  rw [List.getD_eq_getElem?_getD]
  simp only [zr, List.getElem?_replicate]
  split <;> rfl
theorem getD_set_self (l : List Int) (j : Nat) (z : Int) (h : j < l.length) : (l.set j z).getD j 0 = z := by
  rw [List.getD_eq_getElem?_getD, List.getElem?_set_self h]; rfl
theorem cell_other (w : World) (a b : Addr) (v : Value) (h : b.block ≠ a.block) : (w.setCell a v).cell? b = w.cell? b := by
  simp only [World.cell?]
  rw [heap_setCell_other w a b.block v h]
end Go.Proofs.YtmcokphkaekdaabDoor

namespace Go.Proofs.YtmcokphkaekdaabDoor
open Go Go.RowKit Go.Sort
attribute [local go_sem] setCell_drewN alloc_drewN

/-- A call as one step of a region that draws, by a contract that names what it answers only behind it. -/
theorem step_call {P : Program} {ops : Array Oper} {o : Oper} {a : Act} {w : World} {K : Act → World → Prop} {Q : Exit → Act → World → Prop} {E : Prop} (f : FuncId) (args : Array Value) {R : Value → World → Prop}
    (hg : o.guard = none) (hx : (execOp a.eval o).run P w = .ok (.enter f args) w) (c : Calls P f args w fun e w' => ∃ v, e = .returned v ∧ R v w') (h : ∀ v w', R v w' → K (a.put o.dst v) w') :
    if Region.wanted o (yielded ops a.tmps) = true then Oper.wp P o a w K Q else E := by
  have hw : Region.wanted o (yielded ops a.tmps) = true := by simp [Region.wanted, hg]
  rw [if_pos hw]
  unfold Oper.wp
  rw [hx, Oper.upon_enter]
  exact c.mono fun e w' ⟨v, he, hb⟩ => by subst he; exact h v w' hb
/-- Bytes, and nil has no room. -/
def NB (W : World) (v : Value) (bs : List Int) : Prop := Bys W v bs ∧ (∀ a l c, v = .slice a l c → a = none → c = 0)
theorem NB.keep {W W' : World} {v : Value} {bs : List Int} (h : NB W v bs) (hb : Below W.heap.size W W') : NB W' v bs := ⟨h.1.keep hb, h.2⟩
theorem BysM.nb {W : World} {v : Value} {bs : List Int} (h : BysM W v bs) : NB W v bs := ⟨h.1, h.2.2⟩
theorem NB.m {W : World} {v : Value} {bs : List Int} (h : NB W v bs) (hl : bs.length ≤ 211106232532992) : BysM W v bs := ⟨h.1, hl, h.2⟩
theorem NB.of_row {W : World} {g : Nat} {l : List Int} {t : TypeId} (hg : W.heap[g]? = some (.cells (irow .u8 l) t (0, 0))) (hl : l.length ≤ 9223372036854775807) (hz : ∀ z ∈ l, 0 ≤ z ∧ z < 256) (n cap : Nat) (hn : l.length = n) : NB W (.slice (some ⟨g, 0, none⟩) n cap) l := ⟨by rw [← hn]; exact Bys.of_row hg hl hz cap, fun a _ _ h ha => by cases h; cases ha⟩
theorem NB.of_own {W : World} {b n : Nat} {v : Value} {l : List Int} (h : W.ownsRow b 5 1 v n (l.map (Value.int .u8))) (hl : l.length ≤ 9223372036854775807) (hz : ∀ z ∈ l, 0 ≤ z ∧ z < 256) : NB W v l := ⟨Bys.of_own h hl hz, own_nil h⟩
theorem nb_nil (W : World) : NB W (.slice none 0 0) [] := ⟨bys_nil W, fun a l c h _ => by cases h; rfl⟩
theorem NB.form {W : World} {v : Value} {bs : List Int} (h : NB W v bs) : ∃ u uc, v = .slice u bs.length uc ∧ (u = none → uc = 0) := by
  obtain ⟨⟨u, uc, rfl, _⟩, hn⟩ := h
  exact ⟨u, uc, rfl, hn _ _ _ rfl⟩
/-- A row of lists of bytes. -/
theorem Pcs.of_row {W : World} {g : Nat} {t : TypeId} {vs : List Value} {ps : List (List Int)} (hg : W.heap[g]? = some (.cells vs.toArray t (0, 0))) (hl : vs.length = ps.length) (hs : ps.length ≤ 9223372036854775807) (h : ∀ i v, vs[i]? = some v → NB W v (ps.getD i [])) (n : Nat) (hn : ps.length = n) : Pcs W (.slice (some ⟨g, 0, none⟩) n n) ps := by
  subst hn
  refine ⟨_, _, rfl, hs, fun i hi => ?_⟩
  have hv : vs[i]? = some vs[i] := List.getElem?_eq_getElem (by omega)
  have hb := h i _ hv
  obtain ⟨u, uc, e, hu⟩ := hb.form
  refine ⟨g, 0, u, uc, rfl, lt_of_row hg, ?_, by rw [← e]; exact hb.1, hu⟩
  rw [Nat.zero_add, cell_of hg (by rw [List.getElem?_toArray]; exact hv), e]
theorem Pcs.two {W : World} {g : Nat} {t : TypeId} {v0 v1 : Value} {a b : List Int} (hg : W.heap[g]? = some (.cells #[v0, v1] t (0, 0))) (h0 : NB W v0 a) (h1 : NB W v1 b) : Pcs W (.slice (some ⟨g, 0, none⟩) 2 2) [a, b] :=
  Pcs.of_row (vs := [v0, v1]) hg rfl (by simp) (fun i v hv => by
    match i, hv with
    | 0, hv => cases hv; exact h0
    | 1, hv => cases hv; exact h1
    | (k + 2), hv => simp at hv) 2 rfl
theorem Pcs.three {W : World} {g : Nat} {t : TypeId} {v0 v1 v2 : Value} {a b c : List Int} (hg : W.heap[g]? = some (.cells #[v0, v1, v2] t (0, 0))) (h0 : NB W v0 a) (h1 : NB W v1 b) (h2 : NB W v2 c) : Pcs W (.slice (some ⟨g, 0, none⟩) 3 3) [a, b, c] :=
  Pcs.of_row (vs := [v0, v1, v2]) hg rfl (by simp) (fun i v hv => by
    match i, hv with
    | 0, hv => cases hv; exact h0
    | 1, hv => cases hv; exact h1
    | 2, hv => cases hv; exact h2
    | (k + 3), hv => simp at hv) 3 rfl
theorem Pcs.one {W : World} {g : Nat} {t : TypeId} {v0 : Value} {a : List Int} (hg : W.heap[g]? = some (.cells #[v0] t (0, 0))) (h0 : NB W v0 a) : Pcs W (.slice (some ⟨g, 0, none⟩) 1 1) [a] :=
  Pcs.of_row (vs := [v0]) hg rfl (by simp) (fun i v hv => by
    match i, hv with
    | 0, hv => cases hv; exact h0
    | (k + 1), hv => simp at hv) 1 rfl
theorem slice_k (g : Nat) (W : World) : (Instr.sliceAt 25 (.pointer (some ⟨g, 0, none⟩)) none none none).run Tryd.prog W = .ok (.slice (some ⟨g, 0, none⟩) 32 32) W := by kernel_rfl
theorem storeK {W : World} {g : Nat} {old l : List Int} {t : TypeId} (hg : W.heap[g]? = some (.cells (irow .u8 old) t (0, 0))) (ho : old.length = 32) (hl : l.length = 32) : (storeCells ⟨g, 0, none⟩ (irow .u8 l).toList).run Tryd.prog W = .ok () (W.setRow g (irow .u8 l)) := by
  have h := run_storeCells_from (P := Tryd.prog) g t (irow .u8 l).toList 0 (irow .u8 old) W hg (by rw [Array.length_toList, irow_size, irow_size]; omega) (fun v hv => (Array.all_eq_true_iff_forall_mem.1 (irow_one .u8 l)) v (by simpa using hv))
  rw [h, List.take_zero, List.nil_append, Array.toArray_toList]
end Go.Proofs.YtmcokphkaekdaabDoor

namespace Go.Proofs.YtmcokphkaekdaabDoor
open Go Go.RowKit Go.Sort
attribute [local go_sem] setCell_drewN alloc_drewN

theorem NB.grown {W W' : World} {v : Value} {bs : List Int} {row : Option Nat} (h : NB W v bs) (hb : W.grownBy W' row) (hne : ∀ a l c, v = .slice (some a) l c → 0 < l → row ≠ some a.block) : NB W' v bs := by
  obtain ⟨⟨ao, cap, rfl, hl, hc, hz⟩, hn⟩ := h
  refine ⟨⟨ao, cap, rfl, hl, fun j hj => ?_, hz⟩, hn⟩
  obtain ⟨b, off, rfl, h1, h2⟩ := hc j hj
  have hn' := hne ⟨b, off, none⟩ _ _ rfl (by omega)
  exact ⟨b, off, rfl, Nat.lt_of_lt_of_le h1 hb.size, hb.cell h2 (by intro e; exact hn' e.symm)⟩
theorem ex1 {f : FuncId} {args : Array Value} {w : World} {v : Value} {B : World → Prop} (h : Calls Tryd.prog f args w fun e w' => e = .returned v ∧ B w') : Calls Tryd.prog f args w fun e w' => ∃ u, e = .returned u ∧ (u = v ∧ B w') := h.mono fun _ _ ⟨h1, h2⟩ => ⟨v, h1, rfl, h2⟩
theorem wrap8 (x : Int) (h0 : 0 ≤ x) (h1 : x < 256) : IntKind.u8.wrap x = x := by
  simp [IntKind.wrap, IntKind.bits, IntKind.signed]
  exact Int.emod_eq_of_lt h0 h1
theorem fin_row {wr W : World} {g : Nat} {old P : Array Value} {t : TypeId} (hb : Below wr.heap.size wr W) (hg : wr.heap.size ≤ g) (r : W.heap[g]? = some (.cells old t (0, 0))) : ∃ Wf, Wf = W.setRow g P ∧ Wf.heap[g]? = some (.cells P t (0, 0)) ∧ Below wr.heap.size wr Wf ∧ wr.heap.size ≤ g := ⟨_, rfl, setRow_heap W g _ P _ _ r, below_setRow hb hg P, hg⟩
theorem own_cap {W : World} {b n : Nat} {T : TypeId} {v : Value} {xs : List Value} (h : W.ownsRow b T 1 v n xs) : ∀ a l c, v = .slice a l c → l ≤ c := by
  intro a l c e
  obtain ⟨_, ⟨rfl, _⟩ | ⟨g, cap, cur, rfl, _, _, h3, _⟩⟩ := h
  · cases e; exact Nat.le_refl _
  · cases e; exact h3
theorem slice_to (ao : Option Addr) (len cap n : Nat) (h : n ≤ cap) (W : World) : (Instr.sliceAt 22 (.slice ao len cap) none (some (.int .i64 (n : Int))) none).run Tryd.prog W = .ok (.slice ao n cap) W := by
  rw [run_sliceAt_slice _ _ _ _ _ _ elem8, run_slice_h W 22 ao len cap elem8 .i64 _ (by omega) (by omega), size8]
  show Result.ok (sliced _ _ _ _ 1) W = _
  rw [Int.toNat_natCast, sliced, Nat.zero_mul]
  by_cases e : cap = 0
  · rw [if_pos e]; rfl
  · rw [if_neg e]
    cases ao <;> rfl
theorem Bys.take {W : World} {ao : Option Addr} {cap n : Nat} {bs : List Int} (h : Bys W (.slice ao bs.length cap) bs) (hn : n ≤ bs.length) : Bys W (.slice ao n cap) (bs.take n) := by
  obtain ⟨ao', cap', e, hl, hc, hz⟩ := h
  cases e
  have hln : (bs.take n).length = n := by rw [List.length_take]; omega
  refine ⟨ao, cap, by rw [hln], by omega, fun j hj => ?_, fun z h => hz z (List.mem_of_mem_take h)⟩
  obtain ⟨b, off, e, h1, h2⟩ := hc j (by omega)
  refine ⟨b, off, e, h1, ?_⟩
  rw [h2, List.getD_eq_getElem?_getD, List.getD_eq_getElem?_getD, List.getElem?_take_of_lt (by omega)]
/-- What the two roads come to. -/
theorem bel2 (w : World) (a b : Obj) : Below w.heap.size w ((w.alloc a).alloc b) := ((Below.refl _ _).alloc (Nat.le_refl _) _).alloc (by simp) _
theorem bel3 (w : World) (a b c : Obj) : Below w.heap.size w (((w.alloc a).alloc b).alloc c) := (((Below.refl _ _).alloc (Nat.le_refl _) _).alloc (by simp) _).alloc (by simp; omega) _
theorem pieces3 {W V : World} {g1 g3 : Nat} {t t3 : TypeId} {v0 v1 : Value} {a b : List Int} {x : Int} (hb : Below W.heap.size W V) (h0 : NB W v0 a) (h1 : NB W v1 b) (r1 : V.heap[g1]? = some (.cells #[.int .u8 x] t (0, 0))) (hx : ∀ z ∈ [x], 0 ≤ z ∧ z < 256) (r3 : V.heap[g3]? = some (.cells #[v0, v1, .slice (some ⟨g1, 0, none⟩) 1 1] t3 (0, 0))) : Pcs V (.slice (some ⟨g3, 0, none⟩) 3 3) [a, b, [x]] :=
  Pcs.three r3 (h0.keep hb) (h1.keep hb) (NB.of_row (l := [x]) r1 (by simp) hx 1 1 rfl)
end Go.Proofs.YtmcokphkaekdaabDoor

namespace Go.Proofs.YtmcokphkaekdaabDoor
open Go Go.RowKit Go.Sort
attribute [local go_sem] setCell_drewN alloc_drewN

/-- What an answer of the reference's Expand or Derive is. -/
def RAns (W : World) (v : Value) (key info : List Int) (n : Int) : Prop := (∃ (m : Nat) (u : Value), n = (m : Int) ∧ m ≤ 8160 ∧ v = .tuple #[u, .int .i64 0] ∧ NB W u (xpd key info m)) ∨ ((n < 0 ∨ 8160 < n) ∧ v = .tuple #[.slice none 0 0, .int .i64 (if n < 0 then 1 else 2)])
end Go.Proofs.YtmcokphkaekdaabDoor

namespace Go.Proofs.YtmcokphkaekdaabDoor
open Go Go.RowKit Go.Sort
attribute [local go_sem] setCell_drewN alloc_drewN

/-- The marks behind what is handed. -/
def mk4 (k : Nat) : List Int := (List.range k).map fun (i : Nat) => 100 + (i : Int)
theorem mk4_len (k : Nat) : (mk4 k).length = k := by simp [mk4]
theorem mk4_get (k i : Nat) (h : i < k) : (mk4 k).getD i 0 = 100 + (i : Int) := by
  simp [mk4, List.getD_eq_getElem?_getD, List.getElem?_map, List.getElem?_range h]
/-- Some marks are there, zeros behind them. -/
def mz (k : Nat) : List Int := mk4 k ++ zr (80 - k)
theorem mz_len (k : Nat) (h : k ≤ 80) : (mz k).length = 80 := by simp [mz, mk4_len, zr_len]; omega
theorem mz_set (k : Nat) (h : k < 80) : (mz k).set k (100 + (k : Int)) = mz (k + 1) := by
  have e1 : zr (80 - k) = 0 :: zr (80 - (k + 1)) := by
    rw [show 80 - k = (80 - (k + 1)) + 1 by omega]; rfl
  have e2 : mk4 (k + 1) = mk4 k ++ [100 + (k : Int)] := by simp [mk4, List.range_succ]
  rw [mz, mz, e1, e2, List.set_append_right _ _ (by rw [mk4_len]; exact Nat.le_refl _), mk4_len, Nat.sub_self, List.set_cons_zero, List.append_assoc]
  rfl
theorem bmz_set (bs : List Int) (k : Nat) (h : k < 80) : (bs ++ mz k).set (bs.length + k) (100 + (k : Int)) = bs ++ mz (k + 1) := by
  rw [List.set_append_right _ _ (by omega), Nat.add_sub_cancel_left, mz_set k h]
/-- The bytes turned about and changed. -/
def tn4 (bs : List Int) : List Int := xl bs.reverse 51
theorem tn4_len (bs : List Int) : (tn4 bs).length = bs.length := by simp [tn4, xl_len]
theorem tn4_bd (bs : List Int) : ∀ z ∈ tn4 bs, 0 ≤ z ∧ z < 256 := xl_bd _ _
theorem tn4_get (bs : List Int) (i : Nat) (h : i < bs.length) : (tn4 bs).getD i 0 = bits .xor .u8 (bs.getD (bs.length - 1 - i) 0) 51 := by
  rw [tn4, xl_get _ _ _ (by simpa using h), List.getD_eq_getElem?_getD, List.getElem?_reverse h, List.getD_eq_getElem?_getD]
theorem make_len (n : Nat) (hn : n ≤ 140737488355328) (w : World) : (Instr.makeSlice 22 (.int .i64 (n : Int)) (.int .i64 (n : Int))).run Tryd.prog w = .ok (.slice (some ⟨w.heap.size, 0, none⟩) n n) (w.alloc (.cells (irow .u8 (zr n)) 5)) := make_i64 n (by omega) w
theorem conv_bys {W : World} {v : Value} {bs : List Int} (h : Bys W v bs) : (convert 22 9 v).run Tryd.prog W = .ok (.string (strOfNums bs)) W := by
  obtain ⟨ao, cap, rfl, _, hc, _⟩ := h
  cases ao with
  | none =>
    have : bs = [] := by
      cases bs with
      | nil => rfl
      | cons x xs => obtain ⟨b, off, e, _⟩ := hc 0 (by simp); cases e
    subst this
    exact run_convert_bytes_nil W 22 5 Tryd.underlying22 Tryd.underlying5 _ _ 9 Tryd.underlying9
  | some ad =>
    rcases Nat.eq_zero_or_pos bs.length with e0 | e0
    · have : bs = [] := List.eq_nil_of_length_eq_zero e0
      subst this
      obtain ⟨b, off, sp⟩ := ad
      rw [run_convert_bytes_string W 22 9 5 _ _ _ Tryd.underlying22 Tryd.underlying5 Tryd.underlying9]
      have := run_bytesToString (P := Tryd.prog) W ⟨b, off, sp⟩ 0 cap [] (by rfl)
      exact this
    · obtain ⟨b, off, e, _⟩ := hc 0 e0
      cases e
      exact run_convert_bytes_arg W 22 5 Tryd.underlying22 Tryd.underlying5 b off bs.length cap bs rfl (fun i hi => by
        obtain ⟨b', off', e, _, h⟩ := hc i hi
        cases e
        exact h) 9 Tryd.underlying9
theorem str_inj {a b : List Int} (ha : ∀ z ∈ a, 0 ≤ z ∧ z < 256) (hb : ∀ z ∈ b, 0 ≤ z ∧ z < 256) (h : strOfNums a = strOfNums b) : a = b := by
  have h1 := congrArg (fun x => x.data.toList) h
  simp only [strOfNums_data] at h1
  have key : ∀ (a b : List Int), (∀ z ∈ a, 0 ≤ z ∧ z < 256) → (∀ z ∈ b, 0 ≤ z ∧ z < 256) → a.map (fun n => UInt8.ofNat n.toNat) = b.map (fun n => UInt8.ofNat n.toNat) → a = b := by
    intro a
    induction a with
    | nil => intro b _ _ h; cases b with
      | nil => rfl
      | cons y ys => simp at h
    | cons x xs ih => intro b ha hb h; cases b with
      | nil => simp at h
      | cons y ys =>
        simp only [List.map_cons, List.cons.injEq] at h
        have hx := ha x (by simp)
        have hy := hb y (by simp)
        have e := congrArg UInt8.toNat h.1
        simp only [UInt8.toNat_ofNat'] at e
        rw [Nat.mod_eq_of_lt (by omega), Nat.mod_eq_of_lt (by omega)] at e
        have exy : x = y := by omega
        rw [exy, ih ys (fun z h => ha z (by simp [h])) (fun z h => hb z (by simp [h])) h.2]
  exact key a b ha hb h1
theorem str_dec {a b : List Int} (ha : ∀ z ∈ a, 0 ≤ z ∧ z < 256) (hb : ∀ z ∈ b, 0 ≤ z ∧ z < 256) : ((strOfNums a).toList == (strOfNums b).toList) = decide (a = b) := by
  by_cases h : a = b
  · subst h; simp
  · rw [decide_eq_false h, beq_eq_false_iff_ne]
    intro e
    rw [ByteArray.toList_eq, ByteArray.toList_eq] at e
    exact h (str_inj ha hb (Go.WideShapes.bytes_inj e))
set_option maxRecDepth 100000 in
set_option maxHeartbeats 4000000 in
theorem l_same (a b : List Int) (w : World) (u v : Value) (hu : Bys w u a) (hv : Bys w v b) : Calls Tryd.prog 18 #[u, v] w fun e w' => e = .returned (.bool (decide (a = b))) ∧ Below w.heap.size w w' := by
  have c1 := conv_bys hu
  have c2 := conv_bys hv
  obtain ⟨ao, cap, rfl, _, _, hza⟩ := hu
  obtain ⟨bo, bcap, rfl, _, _, hzb⟩ := hv
  go_enter Tryd.func18, Tryd.ntmps18
  have hd := str_dec hza hzb
  go_wp2
  go_ret
  exact ⟨rfl, Below.refl _ _⟩
end Go.Proofs.YtmcokphkaekdaabDoor

namespace Go.Proofs.YtmcokphkaekdaabDoor
open Go Go.RowKit Go.Sort
attribute [local go_sem] setCell_drewN alloc_drewN

/-- A call that answers v in every world that keeps what was in w. -/
def GivesB (w : World) (f : FuncId) (args : Array Value) (v : Value) : Prop := ∀ W, Below w.heap.size w W → Calls Tryd.prog f args W fun e w' => e = .returned v ∧ Below W.heap.size W w'
theorem GivesB.keep {w W : World} {f : FuncId} {args : Array Value} {v : Value} (h : GivesB w f args v) (hb : Below w.heap.size w W) : GivesB W f args v := fun V hV => h V (Below.after hb hV)
theorem GivesB.re {w : World} {f : FuncId} {args : Array Value} {v : Value} (h : GivesB w f args v) {d : Nat} {os : Array Obj} : Calls Tryd.prog f args (grow (redrawn w d) os) fun e w'' => e = .returned v ∧ ∃ p : Regrown, w'' = grow (redrawn w p.d) p.os := Calls.regrown_of (h _ (below_regrown w d os))
theorem GivesB.at {w : World} {f : FuncId} {args : Array Value} {v : Value} (h : GivesB w f args v) : Calls Tryd.prog f args w fun e w' => e = .returned v ∧ Below w.heap.size w w' := h w (Below.refl _ _)
theorem eqHm (l : List Int) (hl : l.length = 32) (W : World) : (Op.equalIn 10000 25 (.agg (irow .u8 l)) (.agg (irow .u8 l))).run Tryd.prog W = .ok true W := by
  rw [eqK _ _ hl hl]; simp
end Go.Proofs.YtmcokphkaekdaabDoor

namespace Go.Proofs.YtmcokphkaekdaabDoor
open Go Go.RowKit Go.Sort
attribute [local go_sem] setCell_drewN alloc_drewN

/-- An append to a full row: a new block, no other turns. -/
theorem wpList_append_full {P : Program} (w : World) {ops : Array Oper} {rest : List Oper} {o : Oper} {a : Act} {Q : Exit → Act → World → Prop} (hgd : o.guard = none) (s x : Operand) (t : TypeId)
    (ho : o.op = .call { callee := .builtin .append, args := #[s, x], argTypes := #[t, t] })
    (base : Nat) (e : TypeId) (i : TypeInfo) (z : Value) (ht : P.underlying t = some (.slice e)) (hi : P.info? e = some i) (hz : i.zero = some z)
    (hsize : i.size = 1) (hby : i.bytes = 1) (hzs : z.cells.size = 1)
    (g n : Nat) (xs : List Value) (hs : a.eval s = .slice (some ⟨g, 0, none⟩) n n) (hown : w.ownsRow base e 1 (.slice (some ⟨g, 0, none⟩) n n) n xs)
    (ad : Addr) (m c : Nat) (news : List Value) (hx : a.eval x = .slice (some ad) m c) (hm : 0 < m) (hl : news.length = m * 1) (hnews : ∀ j u, news[j]? = some u → w.cell? (ad.add j) = some u) (h1 : ∀ u ∈ news, u.oneCell' = true)
    (h63 : n + m ≤ maxLen) (hbytes : (n + m) * 1 ≤ 140737488355328) (hbase : base ≤ w.heap.size)
    (h : ∀ v' w', w'.ownsRow w.heap.size e 1 v' (n + m) (xs ++ news) → w.grownBy w' none → wpList P ops Q rest (a.put o.dst v') w') : wpList P ops Q (o :: rest) a w := by
  refine wpList_plain hgd fun K hK => ?_
  obtain ⟨v', w', hr, h2, h3, _⟩ := run_append_own (P := P) w base t o.type e i z 1 1 ht hi hz hsize hby hzs (by decide) _ n xs hown ad m c news hl hnews h1 h63 hbytes hbase
  have holds : ∀ j u, xs[j]? = some u → w.cell? ((⟨g, 0, none⟩ : Addr).add j) = some u := hown.cells (g := g) rfl
  have hr2 := run_append_grow (P := P) w t o.type e i z ht hi hz ⟨g, 0, none⟩ n n xs (by rw [hsize]; exact hown.1) holds ad m c news (by rw [hsize]; exact hl) hnews (by omega) (by simp only [maxLen] at h63; omega) (growslice_fits (by omega) (by rw [hby]; exact hbytes))
  have hh := hr.symm.trans hr2
  injection hh with e1 e2
  have hown2 : w'.ownsRow w.heap.size e 1 v' (n + m) (xs ++ news) := by
    obtain ⟨q1, ⟨hv, _⟩ | ⟨g1, cap1, cur, hv, hbg, hq⟩⟩ := h2
    · rw [e1] at hv; cases hv
    · have hv' := e1.symm.trans hv
      cases hv'
      exact ⟨q1, .inr ⟨w.heap.size, _, cur, hv, Nat.le_refl _, hq⟩⟩
  have hgr : w.grownBy w' none := by
    rw [e2]
    have hq := World.grownBy_alloc w.drew (.cells (xs.toArray ++ news.toArray ++ Builtin.zeroCells z.cells (grownCap w (n + m) n e - (n + m))) e) none
    exact ⟨hq.os, hq.tape, hq.output, hq.size, hq.block⟩
  unfold Oper.wp execOp
  simp only [ho, resolve, invoke, builtin, Sem.run_bind, Sem.run_pure, Result.andThen_ok, List.map_toArray, List.map_cons, List.map_nil, hs, hx, hr]
  exact hK _ _ (h v' w' hown2 hgr)
/-- A list that was handed out: a full row, or nil. -/
def aptV (x : Option Nat × Nat) : Value := match x.1 with
  | some g => .slice (some ⟨g, 0, none⟩) x.2 x.2
  | none => .slice none 0 0
def aptN (x : Option Nat × Nat) : Nat := match x.1 with
  | some _ => x.2
  | none => 0
def aptA (x : Option Nat × Nat) : Option Addr := x.1.map fun g => ⟨g, 0, none⟩
theorem aptV_eq (x : Option Nat × Nat) : aptV x = .slice (aptA x) (aptN x) (aptN x) := by
  obtain ⟨_ | g, m⟩ := x <;> rfl
/-- The rows of such lists, with P of each. -/
def AptR (W : World) (xs : List (Option Nat × Nat)) (P : Nat → List Int → Prop) : Prop := ∀ (j g m : Nat), xs[j]? = some (some g, m) → ∃ l : List Int, l.length = m ∧ W.heap[g]? = some (.cells (irow .u8 l) 5 (0, 0)) ∧ P j l
def AptD (xs : List (Option Nat × Nat)) : Prop := ∀ (i j : Nat) (g m n : Nat), xs[i]? = some (some g, m) → xs[j]? = some (some g, n) → i = j
theorem AptR.mono {W : World} {xs : List (Option Nat × Nat)} {P Q : Nat → List Int → Prop} (h : AptR W xs P) (hq : ∀ (j : Nat) l g m, xs[j]? = some (some g, m) → l.length = m → P j l → Q j l) : AptR W xs Q := fun j g m hj => by
  obtain ⟨l, h1, h2, h3⟩ := h j g m hj
  exact ⟨l, h1, h2, hq _ _ _ _ hj h1 h3⟩
theorem AptR.kept {W W' : World} {xs : List (Option Nat × Nat)} {P : Nat → List Int → Prop} (h : AptR W xs P) (hb : Below W.heap.size W W') : AptR W' xs P := fun j g m hj => by
  obtain ⟨l, h1, h2, h3⟩ := h j g m hj
  exact ⟨l, h1, Go.Proofs.YtmcokphkaekdaabDoor.keep hb h2, h3⟩
theorem AptR.put {W : World} {xs : List (Option Nat × Nat)} {P Q : Nat → List Int → Prop} (h : AptR W xs P) (hd : AptD xs) {k g m t : Nat} {z : Int} (hk : xs[k]? = some (some g, m)) (hp : ∀ l, l.length = m → P k l → Q k (l.set t z)) (hq : ∀ j l, j ≠ k → P j l → Q j l) : AptR (W.setCell ⟨g, t, none⟩ (.int .u8 z)) xs Q := fun j g' m' hj => by
  obtain ⟨l, h1, h2, h3⟩ := h j g' m' hj
  by_cases e : g' = g
  · subst e
    obtain rfl := hd _ _ _ _ _ hk hj
    obtain ⟨_, rfl⟩ : True ∧ m = m' := ⟨trivial, by rw [hk] at hj; cases hj; rfl⟩
    exact ⟨l.set t z, by rw [List.length_set]; exact h1, irow_set h2 t z, hp l h1 h3⟩
  · refine ⟨l, h1, heap_other h2 e, hq j l (fun ej => e ?_) h3⟩
    subst ej
    rw [hk] at hj
    cases hj
    rfl
theorem getD_set_if (l : List Int) (t u : Nat) (z : Int) (h : t < l.length) : (l.set t z).getD u 0 = if u = t then z else l.getD u 0 := by
  rw [List.getD_eq_getElem?_getD, List.getD_eq_getElem?_getD, List.getElem?_set]
  by_cases e : t = u
  · subst e; simp [h]
  · rw [if_neg e, if_neg (Ne.symm e)]
theorem own_lower {W : World} {b c n : Nat} {e : TypeId} {v : Value} {ys : List Value} (h : W.ownsRow b e 1 v n ys) (hc : c ≤ b) : W.ownsRow c e 1 v n ys := by
  obtain ⟨q1, q2 | ⟨g1, cap1, cur, hv, hbg, hq⟩⟩ := h
  · exact ⟨q1, .inl q2⟩
  · exact ⟨q1, .inr ⟨g1, cap1, cur, hv, Nat.le_trans hc hbg, hq⟩⟩
theorem apt_some {x : Option Nat × Nat} {t : Nat} (h : t < aptN x) : ∃ g m, x = (some g, m) := by
  obtain ⟨_ | g, m⟩ := x
  · simp [aptN] at h
  · exact ⟨g, m, rfl⟩
theorem apt_row {W : World} {gl : Nat} {xs : List (Option Nat × Nat)} (hg : W.heap[gl]? = some (.cells (xs.map aptV).toArray 22 (0, 0))) (i : Nat) (hi : i < xs.length) : W.cell? ⟨gl, i, none⟩ = some (.slice (aptA (xs.getD i (none, 0))) (aptN (xs.getD i (none, 0))) (aptN (xs.getD i (none, 0)))) := by
  rw [cell_of hg (show (xs.map aptV).toArray[i]? = some (aptV (xs.getD i (none, 0))) by rw [List.getElem?_toArray, List.getElem?_map, List.getElem?_eq_getElem hi, List.getD_eq_getElem?_getD, List.getElem?_eq_getElem hi]; rfl), aptV_eq]
end Go.Proofs.YtmcokphkaekdaabDoor

namespace Go.Proofs.YtmcokphkaekdaabDoor
open Go Go.RowKit Go.Sort
attribute [local go_sem] setCell_drewN alloc_drewN

theorem ax_yes (key info : List Int) (n : Nat) (w : World) (vi : Value) (hS : Sta w) (hK : Kon w) (hkl : key.length = 32) (hkz : ∀ z ∈ key, 0 ≤ z ∧ z < 256) (hI : Bys w vi info) (hci : ∀ a l c, vi = .slice a l c → l ≤ c) (hil : info.length ≤ 4611686018427370000) (hn : n ≤ 8160) :
    Calls Tryd.prog 17 #[.agg (irow .u8 key), vi, .int .i64 (n : Int)] w fun e w' => ∃ v, e = .returned v ∧ ∃ g, v = .tuple #[.slice (some ⟨g, 0, none⟩) n n, .int .i64 0] ∧ w.heap.size ≤ g ∧ w'.heap[g]? = some (.cells (irow .u8 (xpd key info n)) 5 (0, 0)) ∧ Below w.heap.size w w' :=
  (a_expand key info n w vi hS hK hkl hkz hI hci hil hn).mono fun _ _ ⟨v, g, h1, h2⟩ => ⟨v, h1, g, h2⟩
theorem loadK {W : World} {g : Nat} {l : List Int} {t : TypeId} (hg : W.heap[g]? = some (.cells (irow .u8 l) t (0, 0))) (hl : l.length = 32) : (loadCells ⟨g, 0, none⟩ 32).run Tryd.prog W = .ok (irow .u8 l) W := by
  have h := run_loadCells_list (P := Tryd.prog) W ⟨g, 0, none⟩ (l.map (Value.int .u8)) (fun j v hj => by
    have hjl : j < l.length := by have := (List.getElem?_eq_some_iff.1 hj).1; simpa using this
    rw [addr_add, Nat.zero_add, irow_cell hg hjl]
    simp only [List.getElem?_map, List.getElem?_eq_getElem hjl, Option.map_some] at hj
    rw [← hj, List.getD_eq_getElem?_getD, List.getElem?_eq_getElem hjl]
    rfl)
  rw [List.length_map, hl] at h
  exact h
theorem l_same_eq (a : List Int) (w : World) (u v : Value) (hu : Bys w u a) (hv : Bys w v a) : Calls Tryd.prog 18 #[u, v] w fun e w' => e = .returned (.bool true) ∧ Below w.heap.size w w' := by
  have h := l_same a a w u v hu hv
  rw [decide_eq_true rfl] at h
  exact h
theorem aptT_nil (W : World) : AptR W [] fun _ _ => True := fun j g m h => by simp at h
theorem aptT_none {W : World} {m : Nat} {xs : List (Option Nat × Nat)} (h : AptR W xs fun _ _ => True) : AptR W ((none, m) :: xs) fun _ _ => True := fun j g m hj => by
  cases j with
  | zero => simp at hj
  | succ j => exact h j g m hj
theorem aptT_some {W : World} {g m : Nat} {l : List Int} {xs : List (Option Nat × Nat)} (hr : W.heap[g]? = some (.cells (irow .u8 l) 5 (0, 0))) (hl : l.length = m) (h : AptR W xs fun _ _ => True) : AptR W ((some g, m) :: xs) fun _ _ => True := fun j g' m' hj => by
  cases j with
  | zero => cases hj; exact ⟨l, hl, hr, trivial⟩
  | succ j => exact h j g' m' hj
theorem Bys.of_rowN {W : World} {g n : Nat} {l : List Int} {t : TypeId} (hg : W.heap[g]? = some (.cells (irow .u8 l) t (0, 0))) (hl : l.length ≤ 9223372036854775807) (hz : ∀ z ∈ l, 0 ≤ z ∧ z < 256) (hn : l.length = n) {cap : Nat} : Bys W (.slice (some ⟨g, 0, none⟩) n cap) l := by rw [← hn]; exact Bys.of_row hg hl hz cap
end Go.Proofs.YtmcokphkaekdaabDoor

namespace Go.Proofs.YtmcokphkaekdaabDoor
open Go Go.RowKit Go.Sort
attribute [local go_sem] setCell_drewN alloc_drewN

theorem ad_yes (salt sec info : List Int) (n : Nat) (w : World) (vs vc vi : Value) (hS : Sta w) (hK : Kon w) (hA : Bys w vs salt) (hca : ∀ a l c, vs = .slice a l c → l ≤ c) (hal : salt.length ≤ 4611686018427370000) (hC : Bys w vc sec) (hcc : ∀ a l c, vc = .slice a l c → l ≤ c) (hcl : sec.length ≤ 4611686018427370000) (hI : Bys w vi info) (hci : ∀ a l c, vi = .slice a l c → l ≤ c) (hil : info.length ≤ 4611686018427370000) (hn : n ≤ 8160) :
    Calls Tryd.prog 19 #[vs, vc, vi, .int .i64 (n : Int)] w fun e w' => ∃ v, e = .returned v ∧ ∃ g, v = .tuple #[.slice (some ⟨g, 0, none⟩) n n, .int .i64 0] ∧ w.heap.size ≤ g ∧ w'.heap[g]? = some (.cells (irow .u8 (xpd (hm salt sec) info n)) 5 (0, 0)) ∧ Below w.heap.size w w' := by
  refine (a_derive salt sec info (n : Int) w vs vc vi hS hK hA hca hal hC hcc hcl hI hci hil).mono ?_
  rintro e_ w' ⟨v, rfl, ⟨m, g, e1, hm, rfl, hg, r⟩ | ⟨hn', _⟩, hb⟩
  · obtain rfl : n = m := by omega
    exact ⟨_, rfl, g, rfl, hg, r, hb⟩
  · omega
theorem ad_no (salt sec info : List Int) (n : Int) (w : World) (vs vc vi : Value) (hS : Sta w) (hK : Kon w) (hA : Bys w vs salt) (hca : ∀ a l c, vs = .slice a l c → l ≤ c) (hal : salt.length ≤ 4611686018427370000) (hC : Bys w vc sec) (hcc : ∀ a l c, vc = .slice a l c → l ≤ c) (hcl : sec.length ≤ 4611686018427370000) (hI : Bys w vi info) (hci : ∀ a l c, vi = .slice a l c → l ≤ c) (hil : info.length ≤ 4611686018427370000) (hn : n < 0 ∨ 8160 < n) :
    Calls Tryd.prog 19 #[vs, vc, vi, .int .i64 n] w fun e w' => ∃ v, e = .returned v ∧ v = .tuple #[.slice none 0 0, .int .i64 (if n < 0 then 1 else 2)] ∧ Below w.heap.size w w' := by
  refine (a_derive salt sec info n w vs vc vi hS hK hA hca hal hC hcc hcl hI hci hil).mono ?_
  rintro e_ w' ⟨v, rfl, ⟨m, g, rfl, hm, rfl, hg, r⟩ | ⟨hn', rfl⟩, hb⟩
  · omega
  · exact ⟨_, rfl, rfl, hb⟩
end Go.Proofs.YtmcokphkaekdaabDoor

namespace Go.Proofs.YtmcokphkaekdaabDoor
open Go Go.RowKit Go.Sort
attribute [local go_sem] setCell_drewN alloc_drewN

theorem ad_nil (w : World) (hS : Sta w) (hK : Kon w) : Calls Tryd.prog 19 #[.slice none 0 0, .slice none 0 0, .slice none 0 0, .int .i64 32] w fun e w' => ∃ g, e = .returned (.tuple #[.slice (some ⟨g, 0, none⟩) 32 32, .int .i64 0]) ∧ Below w.heap.size w w' := by
  have hc : ∀ a l c, Value.slice none 0 0 = .slice a l c → l ≤ c := fun a l c h => by cases h; exact Nat.le_refl _
  refine (ad_yes [] [] [] 32 w _ _ _ hS hK (bys_nil w) hc (by simp) (bys_nil w) hc (by simp) (bys_nil w) hc (by simp) (by decide)).mono ?_
  rintro e_ w' ⟨v, rfl, g, rfl, _, _, hb⟩
  exact ⟨g, rfl, hb⟩
set_option maxRecDepth 100000 in
set_option maxHeartbeats 4000000 in
theorem macHalves_A (salt sec info : List Int) (n : Nat) (w : World) (vs vc vi : Value) (hS : Sta w) (hK : Kon w) (hA : BysN w vs salt) (qA : ∀ a l c, vs = .slice a l c → l ≤ c) (hC : BysN w vc sec) (qC : ∀ a l c, vc = .slice a l c → l ≤ c) (hI : BysN w vi info) (qI : ∀ a l c, vi = .slice a l c → l ≤ c) (hn : n ≤ 8160) : Calls Tryd.prog 7 #[vs, vc, vi, .int .i64 (n : Int)] w fun e w' => e = .returned (.bool true) ∧ Below w.heap.size w w' := by
  have lA : salt.length ≤ 140737488351232 := hA.2.1
  have lC : sec.length ≤ 140737488351232 := hC.2.1
  have lI : info.length ≤ 140737488351232 := hI.2.1
  have c1 := ad_yes salt sec info n w vs vc vi hS hK hA.1 qA (by omega) hC.1 qC (by omega) hI.1 qI (by omega) hn
  have c2 := fun (W : World) hW => a_extract salt sec W vs vc (hS.below hW) (hK.below hW) (hA.1.keep hW) qA (by omega) (hC.1.keep hW) qC (by omega)
  have c3 := fun (W : World) hW => ax_yes (hm salt sec) info n W vi (hS.below hW) (hK.below hW) (hm_len _ _) (hm_bd _ _) (hI.1.keep hW) qI (by omega) hn
  have hxl := xpd_len (hm salt sec) info n
  have hxz := xpd_bd (hm salt sec) info n
  generalize hm salt sec = K at *
  generalize xpd K info n = X at *
  obtain ⟨us, usc, rfl, _⟩ := id hA.1
  obtain ⟨uc, ucc, rfl, _⟩ := id hC.1
  obtain ⟨ui, uic, rfl, _⟩ := id hI.1
  go_enter Tryd.func7, Tryd.ntmps7
  go_wp2_with (fail)
  refine c1.mono ?_
  rintro e_ w1 ⟨v, rfl, ga, rfl, lga, ra, hw⟩
  clear c1
  go_wp2_with (fail)
  refine (c2 w1 hw).mono ?_
  rintro e_ w2 ⟨rfl, hb⟩
  replace ra := keep hb ra
  replace hw := Below.after hw hb
  clear hb c2
  go_wp2_with (fail)
  refine (c3 w2 hw).mono ?_
  rintro e_ w3 ⟨v, rfl, gb, rfl, lgb, rb, hb⟩
  replace ra := keep hb ra
  replace hw := Below.after hw hb
  clear hb c3
  go_wp2_with (fail)
  refine (ad_nil w3 (hS.below hw) (hK.below hw)).mono ?_
  rintro e_ w4 ⟨gc, rfl, hb⟩
  replace ra := keep hb ra
  replace rb := keep hb rb
  replace hw := Below.after hw hb
  clear hb
  go_wp2_with (fail)
  refine (l_same_eq X w4 _ _ (Bys.of_rowN ra (by omega) hxz hxl) (Bys.of_rowN rb (by omega) hxz hxl)).mono ?_
  rintro e_ w5 ⟨rfl, hb⟩
  replace hw := Below.after hw hb
  clear hb
  have hd1 : decide ((0 : Int) ≤ (n : Int)) = true := by simp
  have hd2 : decide ((n : Int) ≤ 8160) = true := by simp; omega
  go_wp2
  go_ret
  exact ⟨rfl, hw⟩
set_option maxRecDepth 100000 in
set_option maxHeartbeats 4000000 in
theorem macHalves_B (salt sec info : List Int) (n : Int) (w : World) (vs vc vi : Value) (hS : Sta w) (hK : Kon w) (hA : BysN w vs salt) (qA : ∀ a l c, vs = .slice a l c → l ≤ c) (hC : BysN w vc sec) (qC : ∀ a l c, vc = .slice a l c → l ≤ c) (hI : BysN w vi info) (qI : ∀ a l c, vi = .slice a l c → l ≤ c) (hn : n < 0 ∨ 8160 < n) : Calls Tryd.prog 7 #[vs, vc, vi, .int .i64 n] w fun e w' => e = .returned (.bool true) ∧ Below w.heap.size w w' := by
  have lA : salt.length ≤ 140737488351232 := hA.2.1
  have lC : sec.length ≤ 140737488351232 := hC.2.1
  have lI : info.length ≤ 140737488351232 := hI.2.1
  have c1 := ad_no salt sec info n w vs vc vi hS hK hA.1 qA (by omega) hC.1 qC (by omega) hI.1 qI (by omega) hn
  have c2 := fun (W : World) hW => a_extract salt sec W vs vc (hS.below hW) (hK.below hW) (hA.1.keep hW) qA (by omega) (hC.1.keep hW) qC (by omega)
  have c3 := fun (W : World) => a_expand_no (hm salt sec) n W vi hn
  generalize hq : (if n < 0 then (1 : Int) else 2) = q at *
  have hq0 : (q == 0) = false := by rw [beq_eq_false_iff_ne, ← hq]; split <;> decide
  have hq1 : (q != 0) = true := by rw [bne_iff_ne, ← hq]; split <;> decide
  replace hq := hide hq
  generalize hm salt sec = K at *
  obtain ⟨us, usc, rfl, _⟩ := id hA.1
  obtain ⟨uc, ucc, rfl, _⟩ := id hC.1
  obtain ⟨ui, uic, rfl, _⟩ := id hI.1
  go_enter Tryd.func7, Tryd.ntmps7
  go_wp2_with (fail)
  refine c1.mono ?_
  rintro e_ w1 ⟨v, rfl, rfl, hw⟩
  clear c1
  go_wp2_with (fail)
  refine (c2 w1 hw).mono ?_
  rintro e_ w2 ⟨rfl, hb⟩
  replace hw := Below.after hw hb
  clear hb c2
  go_wp2_with (fail)
  refine (c3 w2).mono ?_
  rintro e_ w3 ⟨v, rfl, rfl, hb⟩
  replace hw := Below.after hw hb
  clear hb c3
  go_wp2_with (fail)
  refine (ad_nil w3 (hS.below hw) (hK.below hw)).mono ?_
  rintro e_ w4 ⟨gc, rfl, hb⟩
  replace hw := Below.after hw hb
  clear hb
  go_wp2_with (fail)
  refine (l_same_eq [] w4 _ _ (bys_nil _) (bys_nil _)).mono ?_
  rintro e_ w5 ⟨rfl, hb⟩
  replace hw := Below.after hw hb
  clear hb
  rcases hn with hn | hn
  · have hd1 : decide ((0 : Int) ≤ n) = false := decide_eq_false (by omega)
    go_wp2
    go_ret
    exact ⟨rfl, hw⟩
  · have hd1 : decide ((0 : Int) ≤ n) = true := decide_eq_true (by omega)
    have hd2 : decide (n ≤ 8160) = false := decide_eq_false (by omega)
    go_wp2
    go_ret
    exact ⟨rfl, hw⟩
theorem macHalves_any (salt sec info : List Int) (n : Int) (w : World) (vs vc vi : Value) (hS : Sta w) (hK : Kon w) (hA : BysN w vs salt) (qA : ∀ a l c, vs = .slice a l c → l ≤ c) (hC : BysN w vc sec) (qC : ∀ a l c, vc = .slice a l c → l ≤ c) (hI : BysN w vi info) (qI : ∀ a l c, vi = .slice a l c → l ≤ c) : Calls Tryd.prog 7 #[vs, vc, vi, .int .i64 n] w fun e w' => e = .returned (.bool true) ∧ Below w.heap.size w w' := by
  by_cases hn : n < 0 ∨ 8160 < n
  · exact macHalves_B salt sec info n w vs vc vi hS hK hA qA hC qC hI qI hn
  · obtain ⟨m, rfl⟩ := Int.eq_ofNat_of_zero_le (show 0 ≤ n by omega)
    exact macHalves_A salt sec info m w vs vc vi hS hK hA qA hC qC hI qI (by omega)

end Go.Proofs.YtmcokphkaekdaabDoor

namespace Go.Proofs.YtmcokphkaekdaabDoor
open Go Go.RowKit Go.Sort
attribute [local go_sem] setCell_drewN alloc_drewN

theorem slice_lh (g o len cap lo hi : Nat) (h1 : lo ≤ hi) (h2 : hi ≤ cap) (h3 : lo < cap) (W : World) : (Instr.sliceAt 22 (.slice (some ⟨g, o, none⟩) len cap) (some (.int .i64 (lo : Int))) (some (.int .i64 (hi : Int))) none).run Tryd.prog W = .ok (.slice (some ⟨g, o + lo, none⟩) (hi - lo) (cap - lo)) W := by
  rw [run_sliceAt_slice _ _ _ _ _ _ elem8, run_slice_lh W 22 (some ⟨g, o, none⟩) len cap elem8 .i64 .i64 _ _ (by omega) (by omega) (by omega), size8]
  show Result.ok (sliced _ _ _ _ 1) W = _
  rw [Int.toNat_natCast, Int.toNat_natCast, sliced, if_neg (by omega), Nat.mul_one]
  simp [Addr.add]
theorem wrapI (x : Int) (h0 : 0 ≤ x) (h1 : x < 9223372036854775808) : IntKind.i64.wrap x = x := by
  have e : x % 2 ^ IntKind.i64.bits = x := Int.emod_eq_of_lt h0 (by show x < 2 ^ 64; omega)
  unfold IntKind.wrap
  simp only [e]
  rw [if_neg]
  simp only [IntKind.signed, IntKind.bits, Bool.true_and]
  intro h
  have h2 : x ≥ 2 ^ 63 := of_decide_eq_true h
  omega
theorem Bys.mid {W : World} {g : Nat} {l : List Int} {t : TypeId} (hg : W.heap[g]? = some (.cells (irow .u8 l) t (0, 0))) (hz : ∀ z ∈ l, 0 ≤ z ∧ z < 256) (o n cap : Nat) (hn : o + n ≤ l.length) (hb : n ≤ 9223372036854775807) : Bys W (.slice (some ⟨g, o, none⟩) n cap) ((l.drop o).take n) := by
  have hl : ((l.drop o).take n).length = n := by rw [List.length_take, List.length_drop]; omega
  refine ⟨_, cap, by rw [hl], by omega, fun j hj => ⟨g, o, rfl, lt_of_row hg, ?_⟩, fun z h => hz z (List.mem_of_mem_drop (List.mem_of_mem_take h))⟩
  rw [hl] at hj
  rw [irow_cell hg (by omega), List.getD_eq_getElem?_getD, List.getD_eq_getElem?_getD, List.getElem?_take_of_lt hj, List.getElem?_drop]
set_option maxRecDepth 100000 in
set_option maxHeartbeats 8000000 in
theorem macBegins_A (key info : List Int) (n : Nat) (m : Int) (w : World) (vi : Value) (hS : Sta w) (hK : Kon w) (hkl : key.length = 32) (hkz : ∀ z ∈ key, 0 ≤ z ∧ z < 256) (hI : BysN w vi info) (qI : ∀ a l c, vi = .slice a l c → l ≤ c) (hn : n ≤ 8160) : Calls Tryd.prog 6 #[.agg (irow .u8 key), vi, .int .i64 (n : Int), .int .i64 m] w fun e w' => e = .returned (.bool true) ∧ Below w.heap.size w w' := by
  have hiz := bys_bd hI.1
  have hil : info.length ≤ 140737488351232 := hI.2.1
  replace hI := hI.toM
  have r0 := hp1_0 w (.cells (irow .u8 key) 25)
  have hw : Below w.heap.size w (w.alloc (.cells (irow .u8 key) 25)) := (Below.refl _ _).alloc (Nat.le_refl _) _
  have hd1 : decide ((n : Int) < 0) = false := by simp
  have hd2 : decide ((8160 : Int) < (n : Int)) = false := by simp; omega
  have sl := slice_to
  obtain ⟨ui, uic, rfl, _⟩ := id hI.1
  go_enter Tryd.func6, Tryd.ntmps6
  go_wp2_with (first | (refine wpList_box rfl 25 _ rfl _ rfl (bK _) ?_) | (refine wpList_load_want rfl 25 _ rfl (w.heap.size) rfl 25 (irow .u8 key) (0, 0) _ r0 Tryd.underlying25 rfl (infok8 _ hkl) ?_) | fail)
  generalize w.alloc (.cells (irow .u8 key) 25) = w0 at *
  refine (ax_yes key info n w0 _ (hS.below hw) (hK.below hw) hkl hkz (hI.1.keep hw) qI (by omega) hn).mono ?_
  rintro e_ w1 ⟨v, rfl, ga, rfl, lga, ra, hb⟩
  replace r0 := keep hb r0
  replace hw := Below.after hw hb
  clear hb
  go_wp2_with (first | (refine wpList_load_want rfl 25 _ rfl (w.heap.size) rfl 25 (irow .u8 key) (0, 0) _ r0 Tryd.underlying25 rfl (infok8 _ hkl) ?_) | fail)
  refine (ax_yes key info 8160 w1 _ (hS.below hw) (hK.below hw) hkl hkz (hI.1.keep hw) qI (by omega) (by decide)).mono ?_
  rintro e_ w2 ⟨v, rfl, gb, rfl, lgb, rb, hb⟩
  replace r0 := keep hb r0
  replace ra := keep hb ra
  replace hw := Below.after hw hb
  clear hb
  have sl1 := fun W => slice_to (some ⟨gb, 0, none⟩) 8160 8160 n (by omega) W
  have hB1 : Bys w2 (.slice (some ⟨gb, 0, none⟩) n 8160) (xpd key info n) := by
    have h := Bys.mid rb (xpd_bd _ _ _) 0 n 8160 (by rw [xpd_len]; omega) (by omega)
    rw [List.drop_zero, xpd_take key info n 8160 hn] at h
    exact h
  go_wp2_with (fail)
  refine (l_same_eq (xpd key info n) w2 _ _ hB1 (Bys.of_rowN ra (by rw [xpd_len]; omega) (xpd_bd _ _ _) (xpd_len _ _ _))).mono ?_
  rintro e_ w3 ⟨rfl, hb⟩
  replace r0 := keep hb r0
  replace rb := keep hb rb
  replace hw := Below.after hw hb
  clear hb hB1 ra sl1 sl
  generalize w3 = wr at *
  by_cases hm0 : m < 0
  · have hd3 : decide (m < 0) = true := decide_eq_true hm0
    go_wp2
    go_ret
    exact ⟨rfl, hw⟩
  have hd3 : decide (m < 0) = false := decide_eq_false hm0
  by_cases hm1 : 255 ≤ m
  · have hd4 : decide (255 ≤ m) = true := decide_eq_true hm1
    go_wp2
    go_ret
    exact ⟨rfl, hw⟩
  have hd4 : decide (255 ≤ m) = false := decide_eq_false hm1
  obtain ⟨k, rfl⟩ := Int.eq_ofNat_of_zero_le (show 0 ≤ m by omega)
  have hk : k < 255 := by omega
  by_cases hk0 : k = 0
  · have hd5 : decide ((0 : Int) < (k : Int)) = false := decide_eq_false (by omega)
    have hL : NB wr (.slice none 0 0) (tp key info k) := by rw [hk0]; exact nb_nil wr
    have hx_ : ¬ (0 < k) := by omega
    clear hk0 hd5
    go_wp2
    clear hx_
    have sk := slice_k
    have hI2 := hI.nb.keep hw
    have hL0 := tp_le key info k
    have hpl := hm_len key (tp key info k ++ (info ++ [(k : Int) + 1]))
    have hpz := hm_bd key (tp key info k ++ (info ++ [(k : Int) + 1]))
    have etp : tp key info (k + 1) = hm key (tp key info k ++ (info ++ [(k : Int) + 1])) := by rw [tp]; simp
    have htz := tp_bd key info k
    have hat := xpd_at key info k 8160 (by omega)
    rw [etp] at hat
    clear etp
    generalize tp key info k = L0 at *
    have ef : [L0, info, [(k : Int) + 1]].flatten = (L0 ++ (info ++ [(k : Int) + 1])) := by simp
    have efl : (L0 ++ (info ++ [(k : Int) + 1])).length ≤ 140737488355264 := by simp; omega
    have h1z : ∀ z ∈ [(k : Int) + 1], 0 ≤ z ∧ z < 256 := fun z h => by simp at h; omega
    have efz : ∀ z ∈ (L0 ++ (info ++ [(k : Int) + 1])), 0 ≤ z ∧ z < 256 := both_bd htz (both_bd hiz h1z)
    have hmod2 : IntKind.i64.wrap ((k : Int) + 1) = (k : Int) + 1 := wrapI _ (by omega) (by omega)
    have hmod : IntKind.u8.wrap ((k : Int) + 1) = (k : Int) + 1 := wrap8 _ (by omega) (by omega)
    have hP8 : ∀ W, Below wr.heap.size wr W → Sta W ∧ Kon W ∧ Bys W (.slice (some ⟨w.heap.size, 0, none⟩) 32 32) key := fun W hW => ⟨(hS.below hw).below hW, (hK.below hw).below hW, Bys.of_rowN (keep hW r0) (by omega) hkz hkl⟩
    replace hP8 := hide hP8
    replace h1z := hide h1z
    replace efz := hide efz
    generalize eP : hm key (L0 ++ (info ++ [(k : Int) + 1])) = P at *
    replace eP := hide eP
    refine wp_region_noPanic ?_
    go_region_law
      ((first
        | (refine step_call 8 _ (by rfl) (by kernel_rfl) (l_joined [L0, info, [(k : Int) + 1]] _ _ (pieces3 (W := wr) (below_drN (bel2 wr _ _) 1) hL hI2 (hp2_0 wr _ _) h1z.out (hp2_1 wr _ _)) (by rw [ef]; omega)) ?_
           rintro v8 w8 ⟨hown8, hb8⟩
           rw [ef] at hown8
           have hcap8 := own_cap hown8
           have hM := NB.of_own hown8 (by omega) efz.out
           have hb8' : Below wr.heap.size wr w8 := Below.after (below_drN (bel2 wr _ _) 1) hb8
           skip
           clear hb8 hown8)
        | (refine step_call 8 _ (by rfl) (by kernel_rfl) (l_joined [L0, info, [(k : Int) + 1]] _ _ (pieces3 (W := wr) (below_drN (bel3 wr _ _ _) 1) hL hI2 (hp3_1 wr _ _ _) h1z.out (hp3_2 wr _ _ _)) (by rw [ef]; omega)) ?_
           rintro v8 w8 ⟨hown8, hb8⟩
           rw [ef] at hown8
           have hcap8 := own_cap hown8
           have hM := NB.of_own hown8 (by omega) efz.out
           have hb8' : Below wr.heap.size wr w8 := Below.after (below_drN (bel3 wr _ _ _) 1) hb8
           have rZ : w8.heap[wr.heap.size]? = some (.cells (irow .u8 (zr 32)) 25 (0, 0)) := keep hb8 (hp3_0 wr _ _ _)
           clear hb8 hown8)
        | (refine step_call 8 _ (by rfl) (by kernel_rfl) (l_joined [L0, info, [(k : Int) + 1]] _ _ (pieces3 (W := wr) (below_drN (bel3 wr _ _ _) 1) hL hI2 (hp3_0 wr _ _ _) h1z.out (hp3_2 wr _ _ _)) (by rw [ef]; omega)) ?_
           rintro v8 w8 ⟨hown8, hb8⟩
           rw [ef] at hown8
           have hcap8 := own_cap hown8
           have hM := NB.of_own hown8 (by omega) efz.out
           have hb8' : Below wr.heap.size wr w8 := Below.after (below_drN (bel3 wr _ _ _) 1) hb8
           have rZ : w8.heap[wr.heap.size + 1]? = some (.cells (irow .u8 (zr 32)) 25 (0, 0)) := keep hb8 (hp3_1 wr _ _ _)
           clear hb8 hown8)
        | (refine step_call 8 _ (by rfl) (by kernel_rfl) (l_joined [L0, info, [(k : Int) + 1]] _ _ (pieces3 (W := wr) (below_drN (bel3 wr _ _ _) 1) hL hI2 (hp3_0 wr _ _ _) h1z.out (hp3_1 wr _ _ _)) (by rw [ef]; omega)) ?_
           rintro v8 w8 ⟨hown8, hb8⟩
           rw [ef] at hown8
           have hcap8 := own_cap hown8
           have hM := NB.of_own hown8 (by omega) efz.out
           have hb8' : Below wr.heap.size wr w8 := Below.after (below_drN (bel3 wr _ _ _) 1) hb8
           have rZ : w8.heap[wr.heap.size + 1 + 1]? = some (.cells (irow .u8 (zr 32)) 25 (0, 0)) := keep hb8 (hp3_2 wr _ _ _)
           clear hb8 hown8)
        | (refine step_call 10 _ (by rfl) (by kernel_rfl) (ex1 (a_macSum key (L0 ++ (info ++ [(k : Int) + 1])) _ _ _ (hP8.out _ (by first | exact hb8' | exact hb8'.alloc hb8'.size _)).1 (hP8.out _ (by first | exact hb8' | exact hb8'.alloc hb8'.size _)).2.1 (hP8.out _ (by first | exact hb8' | exact hb8'.alloc hb8'.size _)).2.2 (fun a l c h => by cases h; exact Nat.le_refl _) (by omega) (by first | exact hM.1 | exact hM.1.keep ((Below.refl _ _).alloc (Nat.le_refl _) _)) hcap8 (by omega))) ?_
           rintro v9 w9 ⟨rfl, hb9⟩
           rw [eP.out]
           have h89 : Below w8.heap.size w8 w9 := by first | exact hb9 | exact Below.after ((Below.refl _ _).alloc (Nat.le_refl _) _) hb9
           have hsz := (irow_size .u8 P).trans hpl
           try (replace rZ := keep h89 rZ)
           try (have rZ : w9.heap[w8.heap.size]? = some (.cells (irow .u8 (zr 32)) 25 (0, 0)) := keep hb9 (hp1_0 w8 _))
           try (have hs0 := storeK rZ (zr_len 32) hpl)
           have hs4 : (storeCells ⟨w9.heap.size, 0, none⟩ (irow .u8 P).toList).run Tryd.prog (w9.alloc (.cells #[.int .u8 0, .int .u8 0, .int .u8 0, .int .u8 0, .int .u8 0, .int .u8 0, .int .u8 0, .int .u8 0, .int .u8 0, .int .u8 0, .int .u8 0, .int .u8 0, .int .u8 0, .int .u8 0, .int .u8 0, .int .u8 0, .int .u8 0, .int .u8 0, .int .u8 0, .int .u8 0, .int .u8 0, .int .u8 0, .int .u8 0, .int .u8 0, .int .u8 0, .int .u8 0, .int .u8 0, .int .u8 0, .int .u8 0, .int .u8 0, .int .u8 0, .int .u8 0] 25)) = .ok () ((w9.alloc (.cells #[.int .u8 0, .int .u8 0, .int .u8 0, .int .u8 0, .int .u8 0, .int .u8 0, .int .u8 0, .int .u8 0, .int .u8 0, .int .u8 0, .int .u8 0, .int .u8 0, .int .u8 0, .int .u8 0, .int .u8 0, .int .u8 0, .int .u8 0, .int .u8 0, .int .u8 0, .int .u8 0, .int .u8 0, .int .u8 0, .int .u8 0, .int .u8 0, .int .u8 0, .int .u8 0, .int .u8 0, .int .u8 0, .int .u8 0, .int .u8 0, .int .u8 0, .int .u8 0] 25)).setRow w9.heap.size (irow .u8 P)) := storeK (hp1_0 w9 (.cells (irow .u8 (zr 32)) 25)) (zr_len 32) hpl
           have hb9' := Below.after hb8' h89
           have hs8 := hb8'.size
           have hs9 := hb9'.size
           clear hb9 h89 hM)))
    all_goals (refine NoPanic.normal ?_)
    all_goals (first
      | (obtain ⟨wf, ewf, r11, hbf, lw⟩ := fin_row (P := irow .u8 P) hb9' (by omega) rZ; rw [← ewf])
      | (obtain ⟨wf, ewf, r11, hbf, lw⟩ := fin_row (P := irow .u8 P) (hb9'.alloc hb9'.size _) (by omega) (hp1_0 w9 (.cells #[.int .u8 0, .int .u8 0, .int .u8 0, .int .u8 0, .int .u8 0, .int .u8 0, .int .u8 0, .int .u8 0, .int .u8 0, .int .u8 0, .int .u8 0, .int .u8 0, .int .u8 0, .int .u8 0, .int .u8 0, .int .u8 0, .int .u8 0, .int .u8 0, .int .u8 0, .int .u8 0, .int .u8 0, .int .u8 0, .int .u8 0, .int .u8 0, .int .u8 0, .int .u8 0, .int .u8 0, .int .u8 0, .int .u8 0, .int .u8 0, .int .u8 0, .int .u8 0] 25)); rw [← ewf]))
    all_goals
      replace rb := keep hbf rb
      replace hw := Below.after hw hbf
      clear hs4 hbf ewf hb9' hs8 hs9 hb8' hsz hP8 h1z hI2
      try clear rZ
      try clear hs0
      have slM := fun W => slice_lh gb 0 8160 8160 (32 * k) (32 * k + 32) (by omega) (by omega) (by omega) W
      rw [show ((32 * k : Nat) : Int) = 32 * (k : Int) by omega, show ((32 * k + 32 : Nat) : Int) = 32 * (k : Int) + 32 by omega, show 32 * k + 32 - 32 * k = 32 by omega, Nat.zero_add] at slM
      have hBm := fun W (hW : Below wf.heap.size wf W) => Bys.mid (keep hW rb) (xpd_bd _ _ _) (32 * k) 32 (8160 - 32 * k) (by rw [xpd_len]; omega) (by decide)
      rw [hat] at hBm
      have hBp := fun W (hW : Below wf.heap.size wf W) => Bys.of_rowN (keep hW r11) (by omega) hpz hpl (cap := 32)
      have cE : GivesB wf 18 _ (.bool true) := fun W hW => l_same_eq P W _ _ (hBm W hW) (hBp W hW)
      clear hBm hBp
      go_wp2_with (fail)
      refine wp_region_quiet_below (by kernel_rfl) (by kernel_rfl) ?_
      go_big_quiet_step (fail)
      go_big_quiet_step (fail)
      go_big_quiet_step (fail)
      go_big_quiet_step (fail)
      go_big_quiet_step (fail)
      go_big_quiet_step (fail)
      go_big_quiet_step (fail)
      go_big_quiet_step (fail)
      go_big_quiet_step (exact cE.re)
      go_big_quiet_step (fail)
      refine wpQuiet_nil ?_
      rintro _ ⟨p, rfl⟩
      have hb := below_regrown wf p.d p.os
      generalize grow (redrawn wf p.d) p.os = wz at *
      replace hw := Below.after hw hb
      go_wp2
      go_ret
      exact ⟨rfl, hw⟩
  · have hd5 : decide ((0 : Int) < (k : Int)) = true := decide_eq_true (by omega)
    have slA := fun W => slice_lh gb 0 8160 8160 (32 * (k - 1)) (32 * k) (by omega) (by omega) (by omega) W
    rw [show ((32 * (k - 1) : Nat) : Int) = 32 * ((k : Int) - 1) by omega, show ((32 * k : Nat) : Int) = 32 * (k : Int) by omega, show 32 * k - 32 * (k - 1) = 32 by omega, Nat.zero_add] at slA
    have hL : NB wr (.slice (some ⟨gb, 32 * (k - 1), none⟩) 32 (8160 - 32 * (k - 1))) (tp key info k) := by
      have h := Bys.mid rb (xpd_bd _ _ _) (32 * (k - 1)) 32 (8160 - 32 * (k - 1)) (by rw [xpd_len]; omega) (by decide)
      rw [xpd_at key info (k - 1) 8160 (by omega), show k - 1 + 1 = k by omega] at h
      exact ⟨h, fun a _ _ h ha => by cases h; cases ha⟩
    go_wp2
    have sk := slice_k
    have hI2 := hI.nb.keep hw
    have hL0 := tp_le key info k
    have hpl := hm_len key (tp key info k ++ (info ++ [(k : Int) + 1]))
    have hpz := hm_bd key (tp key info k ++ (info ++ [(k : Int) + 1]))
    have etp : tp key info (k + 1) = hm key (tp key info k ++ (info ++ [(k : Int) + 1])) := by rw [tp]; simp
    have htz := tp_bd key info k
    have hat := xpd_at key info k 8160 (by omega)
    rw [etp] at hat
    clear etp
    generalize tp key info k = L0 at *
    have ef : [L0, info, [(k : Int) + 1]].flatten = (L0 ++ (info ++ [(k : Int) + 1])) := by simp
    have efl : (L0 ++ (info ++ [(k : Int) + 1])).length ≤ 140737488355264 := by simp; omega
    have h1z : ∀ z ∈ [(k : Int) + 1], 0 ≤ z ∧ z < 256 := fun z h => by simp at h; omega
    have efz : ∀ z ∈ (L0 ++ (info ++ [(k : Int) + 1])), 0 ≤ z ∧ z < 256 := both_bd htz (both_bd hiz h1z)
    have hmod2 : IntKind.i64.wrap ((k : Int) + 1) = (k : Int) + 1 := wrapI _ (by omega) (by omega)
    have hmod : IntKind.u8.wrap ((k : Int) + 1) = (k : Int) + 1 := wrap8 _ (by omega) (by omega)
    have hP8 : ∀ W, Below wr.heap.size wr W → Sta W ∧ Kon W ∧ Bys W (.slice (some ⟨w.heap.size, 0, none⟩) 32 32) key := fun W hW => ⟨(hS.below hw).below hW, (hK.below hw).below hW, Bys.of_rowN (keep hW r0) (by omega) hkz hkl⟩
    replace hP8 := hide hP8
    replace h1z := hide h1z
    replace efz := hide efz
    generalize eP : hm key (L0 ++ (info ++ [(k : Int) + 1])) = P at *
    replace eP := hide eP
    refine wp_region_noPanic ?_
    go_region_law
      ((first
        | (refine step_call 8 _ (by rfl) (by kernel_rfl) (l_joined [L0, info, [(k : Int) + 1]] _ _ (pieces3 (W := wr) (below_drN (bel2 wr _ _) 1) hL hI2 (hp2_0 wr _ _) h1z.out (hp2_1 wr _ _)) (by rw [ef]; omega)) ?_
           rintro v8 w8 ⟨hown8, hb8⟩
           rw [ef] at hown8
           have hcap8 := own_cap hown8
           have hM := NB.of_own hown8 (by omega) efz.out
           have hb8' : Below wr.heap.size wr w8 := Below.after (below_drN (bel2 wr _ _) 1) hb8
           skip
           clear hb8 hown8)
        | (refine step_call 8 _ (by rfl) (by kernel_rfl) (l_joined [L0, info, [(k : Int) + 1]] _ _ (pieces3 (W := wr) (below_drN (bel3 wr _ _ _) 1) hL hI2 (hp3_1 wr _ _ _) h1z.out (hp3_2 wr _ _ _)) (by rw [ef]; omega)) ?_
           rintro v8 w8 ⟨hown8, hb8⟩
           rw [ef] at hown8
           have hcap8 := own_cap hown8
           have hM := NB.of_own hown8 (by omega) efz.out
           have hb8' : Below wr.heap.size wr w8 := Below.after (below_drN (bel3 wr _ _ _) 1) hb8
           have rZ : w8.heap[wr.heap.size]? = some (.cells (irow .u8 (zr 32)) 25 (0, 0)) := keep hb8 (hp3_0 wr _ _ _)
           clear hb8 hown8)
        | (refine step_call 8 _ (by rfl) (by kernel_rfl) (l_joined [L0, info, [(k : Int) + 1]] _ _ (pieces3 (W := wr) (below_drN (bel3 wr _ _ _) 1) hL hI2 (hp3_0 wr _ _ _) h1z.out (hp3_2 wr _ _ _)) (by rw [ef]; omega)) ?_
           rintro v8 w8 ⟨hown8, hb8⟩
           rw [ef] at hown8
           have hcap8 := own_cap hown8
           have hM := NB.of_own hown8 (by omega) efz.out
           have hb8' : Below wr.heap.size wr w8 := Below.after (below_drN (bel3 wr _ _ _) 1) hb8
           have rZ : w8.heap[wr.heap.size + 1]? = some (.cells (irow .u8 (zr 32)) 25 (0, 0)) := keep hb8 (hp3_1 wr _ _ _)
           clear hb8 hown8)
        | (refine step_call 8 _ (by rfl) (by kernel_rfl) (l_joined [L0, info, [(k : Int) + 1]] _ _ (pieces3 (W := wr) (below_drN (bel3 wr _ _ _) 1) hL hI2 (hp3_0 wr _ _ _) h1z.out (hp3_1 wr _ _ _)) (by rw [ef]; omega)) ?_
           rintro v8 w8 ⟨hown8, hb8⟩
           rw [ef] at hown8
           have hcap8 := own_cap hown8
           have hM := NB.of_own hown8 (by omega) efz.out
           have hb8' : Below wr.heap.size wr w8 := Below.after (below_drN (bel3 wr _ _ _) 1) hb8
           have rZ : w8.heap[wr.heap.size + 1 + 1]? = some (.cells (irow .u8 (zr 32)) 25 (0, 0)) := keep hb8 (hp3_2 wr _ _ _)
           clear hb8 hown8)
        | (refine step_call 10 _ (by rfl) (by kernel_rfl) (ex1 (a_macSum key (L0 ++ (info ++ [(k : Int) + 1])) _ _ _ (hP8.out _ (by first | exact hb8' | exact hb8'.alloc hb8'.size _)).1 (hP8.out _ (by first | exact hb8' | exact hb8'.alloc hb8'.size _)).2.1 (hP8.out _ (by first | exact hb8' | exact hb8'.alloc hb8'.size _)).2.2 (fun a l c h => by cases h; exact Nat.le_refl _) (by omega) (by first | exact hM.1 | exact hM.1.keep ((Below.refl _ _).alloc (Nat.le_refl _) _)) hcap8 (by omega))) ?_
           rintro v9 w9 ⟨rfl, hb9⟩
           rw [eP.out]
           have h89 : Below w8.heap.size w8 w9 := by first | exact hb9 | exact Below.after ((Below.refl _ _).alloc (Nat.le_refl _) _) hb9
           have hsz := (irow_size .u8 P).trans hpl
           try (replace rZ := keep h89 rZ)
           try (have rZ : w9.heap[w8.heap.size]? = some (.cells (irow .u8 (zr 32)) 25 (0, 0)) := keep hb9 (hp1_0 w8 _))
           try (have hs0 := storeK rZ (zr_len 32) hpl)
           have hs4 : (storeCells ⟨w9.heap.size, 0, none⟩ (irow .u8 P).toList).run Tryd.prog (w9.alloc (.cells #[.int .u8 0, .int .u8 0, .int .u8 0, .int .u8 0, .int .u8 0, .int .u8 0, .int .u8 0, .int .u8 0, .int .u8 0, .int .u8 0, .int .u8 0, .int .u8 0, .int .u8 0, .int .u8 0, .int .u8 0, .int .u8 0, .int .u8 0, .int .u8 0, .int .u8 0, .int .u8 0, .int .u8 0, .int .u8 0, .int .u8 0, .int .u8 0, .int .u8 0, .int .u8 0, .int .u8 0, .int .u8 0, .int .u8 0, .int .u8 0, .int .u8 0, .int .u8 0] 25)) = .ok () ((w9.alloc (.cells #[.int .u8 0, .int .u8 0, .int .u8 0, .int .u8 0, .int .u8 0, .int .u8 0, .int .u8 0, .int .u8 0, .int .u8 0, .int .u8 0, .int .u8 0, .int .u8 0, .int .u8 0, .int .u8 0, .int .u8 0, .int .u8 0, .int .u8 0, .int .u8 0, .int .u8 0, .int .u8 0, .int .u8 0, .int .u8 0, .int .u8 0, .int .u8 0, .int .u8 0, .int .u8 0, .int .u8 0, .int .u8 0, .int .u8 0, .int .u8 0, .int .u8 0, .int .u8 0] 25)).setRow w9.heap.size (irow .u8 P)) := storeK (hp1_0 w9 (.cells (irow .u8 (zr 32)) 25)) (zr_len 32) hpl
           have hb9' := Below.after hb8' h89
           have hs8 := hb8'.size
           have hs9 := hb9'.size
           clear hb9 h89 hM)))
    all_goals (refine NoPanic.normal ?_)
    all_goals (first
      | (obtain ⟨wf, ewf, r11, hbf, lw⟩ := fin_row (P := irow .u8 P) hb9' (by omega) rZ; rw [← ewf])
      | (obtain ⟨wf, ewf, r11, hbf, lw⟩ := fin_row (P := irow .u8 P) (hb9'.alloc hb9'.size _) (by omega) (hp1_0 w9 (.cells #[.int .u8 0, .int .u8 0, .int .u8 0, .int .u8 0, .int .u8 0, .int .u8 0, .int .u8 0, .int .u8 0, .int .u8 0, .int .u8 0, .int .u8 0, .int .u8 0, .int .u8 0, .int .u8 0, .int .u8 0, .int .u8 0, .int .u8 0, .int .u8 0, .int .u8 0, .int .u8 0, .int .u8 0, .int .u8 0, .int .u8 0, .int .u8 0, .int .u8 0, .int .u8 0, .int .u8 0, .int .u8 0, .int .u8 0, .int .u8 0, .int .u8 0, .int .u8 0] 25)); rw [← ewf]))
    all_goals
      replace rb := keep hbf rb
      replace hw := Below.after hw hbf
      clear hs4 hbf ewf hb9' hs8 hs9 hb8' hsz hP8 h1z hI2
      try clear rZ
      try clear hs0
      have slM := fun W => slice_lh gb 0 8160 8160 (32 * k) (32 * k + 32) (by omega) (by omega) (by omega) W
      rw [show ((32 * k : Nat) : Int) = 32 * (k : Int) by omega, show ((32 * k + 32 : Nat) : Int) = 32 * (k : Int) + 32 by omega, show 32 * k + 32 - 32 * k = 32 by omega, Nat.zero_add] at slM
      have hBm := fun W (hW : Below wf.heap.size wf W) => Bys.mid (keep hW rb) (xpd_bd _ _ _) (32 * k) 32 (8160 - 32 * k) (by rw [xpd_len]; omega) (by decide)
      rw [hat] at hBm
      have hBp := fun W (hW : Below wf.heap.size wf W) => Bys.of_rowN (keep hW r11) (by omega) hpz hpl (cap := 32)
      have cE : GivesB wf 18 _ (.bool true) := fun W hW => l_same_eq P W _ _ (hBm W hW) (hBp W hW)
      clear hBm hBp
      go_wp2_with (fail)
      refine wp_region_quiet_below (by kernel_rfl) (by kernel_rfl) ?_
      go_big_quiet_step (fail)
      go_big_quiet_step (fail)
      go_big_quiet_step (fail)
      go_big_quiet_step (fail)
      go_big_quiet_step (fail)
      go_big_quiet_step (fail)
      go_big_quiet_step (fail)
      go_big_quiet_step (fail)
      go_big_quiet_step (exact cE.re)
      go_big_quiet_step (fail)
      refine wpQuiet_nil ?_
      rintro _ ⟨p, rfl⟩
      have hb := below_regrown wf p.d p.os
      generalize grow (redrawn wf p.d) p.os = wz at *
      replace hw := Below.after hw hb
      go_wp2
      go_ret
      exact ⟨rfl, hw⟩
set_option maxRecDepth 100000 in
set_option maxHeartbeats 8000000 in
theorem macBegins_B (key info : List Int) (n : Int) (m : Int) (w : World) (vi : Value) (_hS : Sta w) (_hK : Kon w) (hkl : key.length = 32) (_hkz : ∀ z ∈ key, 0 ≤ z ∧ z < 256) (hI : BysN w vi info) (_qI : ∀ a l c, vi = .slice a l c → l ≤ c) (hn : n < 0 ∨ 8160 < n) : Calls Tryd.prog 6 #[.agg (irow .u8 key), vi, .int .i64 n, .int .i64 m] w fun e w' => e = .returned (.bool true) ∧ Below w.heap.size w w' := by
  have r0 := hp1_0 w (.cells (irow .u8 key) 25)
  have hw : Below w.heap.size w (w.alloc (.cells (irow .u8 key) 25)) := (Below.refl _ _).alloc (Nat.le_refl _) _
  have cN := fun W => a_expand_no key n W vi hn
  obtain ⟨ui, uic, rfl, _⟩ := id hI.1
  rcases hn with hn | hn
  · have hd1 : decide (n < 0) = true := decide_eq_true hn
    rw [if_pos hn] at cN
    go_enter Tryd.func6, Tryd.ntmps6
    go_wp2_with (first | (refine wpList_box rfl 25 _ rfl _ rfl (bK _) ?_) | (refine wpList_load_want rfl 25 _ rfl (w.heap.size) rfl 25 (irow .u8 key) (0, 0) _ r0 Tryd.underlying25 rfl (infok8 _ hkl) ?_) | fail)
    generalize w.alloc (.cells (irow .u8 key) 25) = w0 at *
    refine (cN w0).mono ?_
    rintro e_ w1 ⟨v, rfl, rfl, hb⟩
    replace hw := Below.after hw hb
    clear hb cN
    go_wp2
    go_ret
    exact ⟨rfl, hw⟩
  · have hd1 : decide (n < 0) = false := decide_eq_false (by omega)
    have hd2 : decide ((8160 : Int) < n) = true := decide_eq_true hn
    rw [if_neg (show ¬ n < 0 by omega)] at cN
    go_enter Tryd.func6, Tryd.ntmps6
    go_wp2_with (first | (refine wpList_box rfl 25 _ rfl _ rfl (bK _) ?_) | (refine wpList_load_want rfl 25 _ rfl (w.heap.size) rfl 25 (irow .u8 key) (0, 0) _ r0 Tryd.underlying25 rfl (infok8 _ hkl) ?_) | fail)
    generalize w.alloc (.cells (irow .u8 key) 25) = w0 at *
    refine (cN w0).mono ?_
    rintro e_ w1 ⟨v, rfl, rfl, hb⟩
    replace hw := Below.after hw hb
    clear hb cN
    go_wp2
    go_ret
    exact ⟨rfl, hw⟩
theorem macBegins_any (key info : List Int) (n : Int) (m : Int) (w : World) (vi : Value) (hS : Sta w) (hK : Kon w) (hkl : key.length = 32) (hkz : ∀ z ∈ key, 0 ≤ z ∧ z < 256) (hI : BysN w vi info) (qI : ∀ a l c, vi = .slice a l c → l ≤ c) : Calls Tryd.prog 6 #[.agg (irow .u8 key), vi, .int .i64 n, .int .i64 m] w fun e w' => e = .returned (.bool true) ∧ Below w.heap.size w w' := by
  by_cases hn : n < 0 ∨ 8160 < n
  · exact macBegins_B key info n m w vi hS hK hkl hkz hI qI hn
  · obtain ⟨k, rfl⟩ := Int.eq_ofNat_of_zero_le (show 0 ≤ n by omega)
    exact macBegins_A key info k m w vi hS hK hkl hkz hI qI (by omega)

end Go.Proofs.YtmcokphkaekdaabDoor
