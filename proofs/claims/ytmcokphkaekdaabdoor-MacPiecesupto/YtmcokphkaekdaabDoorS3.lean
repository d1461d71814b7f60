import Derived.Test.YtmcokphkaekdaabDoorProg
import Derived.WalkKit
import Derived.WalkSpells
import Derived.WalkLawsBesides
import Derived.Lib.QuietBelow
import Derived.BigQuiet
import Derived.Test.YtmcokphkaekdaabDoorS0
import Derived.Test.YtmcokphkaekdaabDoorS2
import Derived.Deep.RegionLaw
import Derived.Deep.RegionHeld3
import Derived.Laws.BytesArg
import Derived.OwnWalk
import Derived.Lib.SlBytesConst
import Derived.Test.YtmcokphkaekdaabDoorS1
import Derived.ProofKit
import Derived.OpenShut
import Derived.ChangeSlices
import Derived.ChangeArms
import Derived.Deep.Slices
namespace Go.Proofs.YtmcokphkaekdaabDoor
open Go Go.RowKit Go.Sort
attribute [local go_sem] setCell_drewN alloc_drewN

theorem zr_get (n j : Nat) : (zr n).getD j 0 = 0 := by
  rw [List.getD_eq_getElem?_getD]
  simp only [zr, List.getElem?_replicate]
  split <;> rfl
theorem getD_set_self (l : List Int) (j : Nat) (z : Int) (h : j < l.length) : (l.set j z).getD j 0 = z := by
  rw [List.getD_eq_getElem?_getD, List.getElem?_set_self h]; rfl
theorem cell_other (w : World) (a b : Addr) (v : Value) (h : b.block ≠ a.block) : (w.setCell a v).cell? b = w.cell? b := by
  simp only [World.cell?]
  rw [heap_setCell_other w a b.block v h]
end Go.Proofs.YtmcokphkaekdaabDoor

namespace Go.Proofs.YtmcokphkaekdaabDoor
open Go Go.RowKit Go.Sort
attribute [local go_sem] setCell_drewN alloc_drewN

/-- A call as one step of a region that draws, by a contract that names what it answers only behind it. -/
theorem step_call {P : Program} {ops : Array Oper} {o : Oper} {a : Act} {w : World} {K : Act → World → Prop} {Q : Exit → Act → World → Prop} {E : Prop} (f : FuncId) (args : Array Value) {R : Value → World → Prop}
    (hg : o.guard = none) (hx : (execOp a.eval o).run P w = .ok (.enter f args) w) (c : Calls P f args w fun e w' => ∃ v, e = .returned v ∧ R v w') (h : ∀ v w', R v w' → K (a.put o.dst v) w') :
    if Region.wanted o (yielded ops a.tmps) = true then Oper.wp P o a w K Q else E := by
  have hw : Region.wanted o (yielded ops a.tmps) = true := by simp [Region.wanted, hg]
  rw [if_pos hw]
  unfold Oper.wp
  rw [hx, Oper.upon_enter]
  exact c.mono fun e w' ⟨v, he, hb⟩ => by subst he; exact h v w' hb
/-- Bytes, and nil has no room. -/
def NB (W : World) (v : Value) (bs : List Int) : Prop := Bys W v bs ∧ (∀ a l c, v = .slice a l c → a = none → c = 0)
theorem NB.keep {W W' : World} {v : Value} {bs : List Int} (h : NB W v bs) (hb : Below W.heap.size W W') : NB W' v bs := ⟨h.1.keep hb, h.2⟩
theorem BysM.nb {W : World} {v : Value} {bs : List Int} (h : BysM W v bs) : NB W v bs := ⟨h.1, h.2.2⟩
theorem NB.m {W : World} {v : Value} {bs : List Int} (h : NB W v bs) (hl : bs.length ≤ 211106232532992) : BysM W v bs := ⟨h.1, hl, h.2⟩
theorem NB.of_row {W : World} {g : Nat} {l : List Int} {t : TypeId} (hg : W.heap[g]? = some (.cells (irow .u8 l) t (0, 0))) (hl : l.length ≤ 9223372036854775807) (hz : ∀ z ∈ l, 0 ≤ z ∧ z < 256) (n cap : Nat) (hn : l.length = n) : NB W (.slice (some ⟨g, 0, none⟩) n cap) l := ⟨by rw [← hn]; exact Bys.of_row hg hl hz cap, fun a _ _ h ha => by cases h; cases ha⟩
theorem NB.of_own {W : World} {b n : Nat} {v : Value} {l : List Int} (h : W.ownsRow b 5 1 v n (l.map (Value.int .u8))) (hl : l.length ≤ 9223372036854775807) (hz : ∀ z ∈ l, 0 ≤ z ∧ z < 256) : NB W v l := ⟨Bys.of_own h hl hz, own_nil h⟩
theorem nb_nil (W : World) : NB W (.slice none 0 0) [] := ⟨bys_nil W, fun a l c h _ => by cases h; rfl⟩
theorem NB.form {W : World} {v : Value} {bs : List Int} (h : NB W v bs) : ∃ u uc, v = .slice u bs.length uc ∧ (u = none → uc = 0) := by
  obtain ⟨⟨u, uc, rfl, _⟩, hn⟩ := h
  exact ⟨u, uc, rfl, hn _ _ _ rfl⟩
/-- A row of lists of bytes. -/
theorem Pcs.of_row {W : World} {g : Nat} {t : TypeId} {vs : List Value} {ps : List (List Int)} (hg : W.heap[g]? = some (.cells vs.toArray t (0, 0))) (hl : vs.length = ps.length) (hs : ps.length ≤ 9223372036854775807) (h : ∀ i v, vs[i]? = some v → NB W v (ps.getD i [])) (n : Nat) (hn : ps.length = n) : Pcs W (.slice (some ⟨g, 0, none⟩) n n) ps := by
  subst hn
  refine ⟨_, _, rfl, hs, fun i hi => ?_⟩
  have hv : vs[i]? = some vs[i] := List.getElem?_eq_getElem (by omega)
  have hb := h i _ hv
  obtain ⟨u, uc, e, hu⟩ := hb.form
  refine ⟨g, 0, u, uc, rfl, lt_of_row hg, ?_, by rw [← e]; exact hb.1, hu⟩
  rw [Nat.zero_add, cell_of hg (by rw [List.getElem?_toArray]; exact hv), e]
theorem Pcs.two {W : World} {g : Nat} {t : TypeId} {v0 v1 : Value} {a b : List Int} (hg : W.heap[g]? = some (.cells #[v0, v1] t (0, 0))) (h0 : NB W v0 a) (h1 : NB W v1 b) : Pcs W (.slice (some ⟨g, 0, none⟩) 2 2) [a, b] :=
  Pcs.of_row (vs := [v0, v1]) hg rfl (by simp) (fun i v hv => by
    match i, hv with
    | 0, hv => cases hv; exact h0
    | 1, hv => cases hv; exact h1
    | (k + 2), hv => simp at hv) 2 rfl
theorem Pcs.three {W : World} {g : Nat} {t : TypeId} {v0 v1 v2 : Value} {a b c : List Int} (hg : W.heap[g]? = some (.cells #[v0, v1, v2] t (0, 0))) (h0 : NB W v0 a) (h1 : NB W v1 b) (h2 : NB W v2 c) : Pcs W (.slice (some ⟨g, 0, none⟩) 3 3) [a, b, c] :=
  Pcs.of_row (vs := [v0, v1, v2]) hg rfl (by simp) (fun i v hv => by
    match i, hv with
    | 0, hv => cases hv; exact h0
    | 1, hv => cases hv; exact h1
    | 2, hv => cases hv; exact h2
    | (k + 3), hv => simp at hv) 3 rfl
theorem Pcs.one {W : World} {g : Nat} {t : TypeId} {v0 : Value} {a : List Int} (hg : W.heap[g]? = some (.cells #[v0] t (0, 0))) (h0 : NB W v0 a) : Pcs W (.slice (some ⟨g, 0, none⟩) 1 1) [a] :=
  Pcs.of_row (vs := [v0]) hg rfl (by simp) (fun i v hv => by
    match i, hv with
    | 0, hv => cases hv; exact h0
    | (k + 1), hv => simp at hv) 1 rfl
theorem slice_k (g : Nat) (W : World) : (Instr.sliceAt 25 (.pointer (some ⟨g, 0, none⟩)) none none none).run Tryd.prog W = .ok (.slice (some ⟨g, 0, none⟩) 32 32) W := by kernel_rfl
theorem storeK {W : World} {g : Nat} {old l : List Int} {t : TypeId} (hg : W.heap[g]? = some (.cells (irow .u8 old) t (0, 0))) (ho : old.length = 32) (hl : l.length = 32) : (storeCells ⟨g, 0, none⟩ (irow .u8 l).toList).run Tryd.prog W = .ok () (W.setRow g (irow .u8 l)) := by
  have h := run_storeCells_from (P := Tryd.prog) g t (irow .u8 l).toList 0 (irow .u8 old) W hg (by rw [Array.length_toList, irow_size, irow_size]; omega) (fun v hv => (Array.all_eq_true_iff_forall_mem.1 (irow_one .u8 l)) v (by simpa using hv))
  rw [h, List.take_zero, List.nil_append, Array.toArray_toList]
end Go.Proofs.YtmcokphkaekdaabDoor

namespace Go.Proofs.YtmcokphkaekdaabDoor
open Go Go.RowKit Go.Sort
attribute [local go_sem] setCell_drewN alloc_drewN

theorem NB.grown {W W' : World} {v : Value} {bs : List Int} {row : Option Nat} (h : NB W v bs) (hb : W.grownBy W' row) (hne : ∀ a l c, v = .slice (some a) l c → 0 < l → row ≠ some a.block) : NB W' v bs := by
  obtain ⟨⟨ao, cap, rfl, hl, hc, hz⟩, hn⟩ := h
  refine ⟨⟨ao, cap, rfl, hl, fun j hj => ?_, hz⟩, hn⟩
  obtain ⟨b, off, rfl, h1, h2⟩ := hc j hj
  have hn' := hne ⟨b, off, none⟩ _ _ rfl (by omega)
  exact ⟨b, off, rfl, Nat.lt_of_lt_of_le h1 hb.size, hb.cell h2 (by intro e; exact hn' e.symm)⟩
theorem ex1 {f : FuncId} {args : Array Value} {w : World} {v : Value} {B : World → Prop} (h : Calls Tryd.prog f args w fun e w' => e = .returned v ∧ B w') : Calls Tryd.prog f args w fun e w' => ∃ u, e = .returned u ∧ (u = v ∧ B w') := h.mono fun _ _ ⟨h1, h2⟩ => ⟨v, h1, rfl, h2⟩
theorem wrap8 (x : Int) (h0 : 0 ≤ x) (h1 : x < 256) : IntKind.u8.wrap x = x := by
  simp [IntKind.wrap, IntKind.bits, IntKind.signed]
  exact Int.emod_eq_of_lt h0 h1
theorem fin_row {wr W : World} {g : Nat} {old P : Array Value} {t : TypeId} (hb : Below wr.heap.size wr W) (hg : wr.heap.size ≤ g) (r : W.heap[g]? = some (.cells old t (0, 0))) : ∃ Wf, Wf = W.setRow g P ∧ Wf.heap[g]? = some (.cells P t (0, 0)) ∧ Below wr.heap.size wr Wf ∧ wr.heap.size ≤ g := ⟨_, rfl, setRow_heap W g _ P _ _ r, below_setRow hb hg P, hg⟩
theorem own_cap {W : World} {b n : Nat} {T : TypeId} {v : Value} {xs : List Value} (h : W.ownsRow b T 1 v n xs) : ∀ a l c, v = .slice a l c → l ≤ c := by
  intro a l c e
  obtain ⟨_, ⟨rfl, _⟩ | ⟨g, cap, cur, rfl, _, _, h3, _⟩⟩ := h
  · cases e; exact Nat.le_refl _
  · cases e; exact h3
theorem slice_to (ao : Option Addr) (len cap n : Nat) (h : n ≤ cap) (W : World) : (Instr.sliceAt 22 (.slice ao len cap) none (some (.int .i64 (n : Int))) none).run Tryd.prog W = .ok (.slice ao n cap) W := by
  rw [run_sliceAt_slice _ _ _ _ _ _ elem8, run_slice_h W 22 ao len cap elem8 .i64 _ (by omega) (by omega), size8]
  show Result.ok (sliced _ _ _ _ 1) W = _
  rw [Int.toNat_natCast, sliced, Nat.zero_mul]
  by_cases e : cap = 0
  · rw [if_pos e]; rfl
  · rw [if_neg e]
    cases ao <;> rfl
theorem Bys.take {W : World} {ao : Option Addr} {cap n : Nat} {bs : List Int} (h : Bys W (.slice ao bs.length cap) bs) (hn : n ≤ bs.length) : Bys W (.slice ao n cap) (bs.take n) := by
  obtain ⟨ao', cap', e, hl, hc, hz⟩ := h
  cases e
  have hln : (bs.take n).length = n := by rw [List.length_take]; omega
  refine ⟨ao, cap, by rw [hln], by omega, fun j hj => ?_, fun z h => hz z (List.mem_of_mem_take h)⟩
  obtain ⟨b, off, e, h1, h2⟩ := hc j (by omega)
  refine ⟨b, off, e, h1, ?_⟩
  rw [h2, List.getD_eq_getElem?_getD, List.getD_eq_getElem?_getD, List.getElem?_take_of_lt (by omega)]
/-- What the two roads come to. -/
theorem bel2 (w : World) (a b : Obj) : Below w.heap.size w ((w.alloc a).alloc b) := ((Below.refl _ _).alloc (Nat.le_refl _) _).alloc (by simp) _
theorem bel3 (w : World) (a b c : Obj) : Below w.heap.size w (((w.alloc a).alloc b).alloc c) := (((Below.refl _ _).alloc (Nat.le_refl _) _).alloc (by simp) _).alloc (by simp; omega) _
theorem pieces3 {W V : World} {g1 g3 : Nat} {t t3 : TypeId} {v0 v1 : Value} {a b : List Int} {x : Int} (hb : Below W.heap.size W V) (h0 : NB W v0 a) (h1 : NB W v1 b) (r1 : V.heap[g1]? = some (.cells #[.int .u8 x] t (0, 0))) (hx : ∀ z ∈ [x], 0 ≤ z ∧ z < 256) (r3 : V.heap[g3]? = some (.cells #[v0, v1, .slice (some ⟨g1, 0, none⟩) 1 1] t3 (0, 0))) : Pcs V (.slice (some ⟨g3, 0, none⟩) 3 3) [a, b, [x]] :=
  Pcs.three r3 (h0.keep hb) (h1.keep hb) (NB.of_row (l := [x]) r1 (by simp) hx 1 1 rfl)
end Go.Proofs.YtmcokphkaekdaabDoor

namespace Go.Proofs.YtmcokphkaekdaabDoor
open Go Go.RowKit Go.Sort
attribute [local go_sem] setCell_drewN alloc_drewN

/-- What an answer of the reference's Expand or Derive is. -/
def RAns (W : World) (v : Value) (key info : List Int) (n : Int) : Prop := (∃ (m : Nat) (u : Value), n = (m : Int) ∧ m ≤ 8160 ∧ v = .tuple #[u, .int .i64 0] ∧ NB W u (xpd key info m)) ∨ ((n < 0 ∨ 8160 < n) ∧ v = .tuple #[.slice none 0 0, .int .i64 (if n < 0 then 1 else 2)])
end Go.Proofs.YtmcokphkaekdaabDoor

namespace Go.Proofs.YtmcokphkaekdaabDoor
open Go Go.RowKit Go.Sort
attribute [local go_sem] setCell_drewN alloc_drewN

/-- The marks behind what is handed. -/
def mk4 (k : Nat) : List Int := (List.range k).map fun (i : Nat) => 100 + (i : Int)
theorem mk4_len (k : Nat) : (mk4 k).length = k := by simp [mk4]
theorem mk4_get (k i : Nat) (h : i < k) : (mk4 k).getD i 0 = 100 + (i : Int) := by
  simp [mk4, List.getD_eq_getElem?_getD, List.getElem?_map, List.getElem?_range h]
/-- Some marks are there, zeros behind them. -/
def mz (k : Nat) : List Int := mk4 k ++ zr (80 - k)
theorem mz_len (k : Nat) (h : k ≤ 80) : (mz k).length = 80 := by simp [mz, mk4_len, zr_len]; omega
theorem mz_set (k : Nat) (h : k < 80) : (mz k).set k (100 + (k : Int)) = mz (k + 1) := by
  have e1 : zr (80 - k) = 0 :: zr (80 - (k + 1)) := by
    rw [show 80 - k = (80 - (k + 1)) + 1 by omega]; rfl
  have e2 : mk4 (k + 1) = mk4 k ++ [100 + (k : Int)] := by simp [mk4, List.range_succ]
  rw [mz, mz, e1, e2, List.set_append_right _ _ (by rw [mk4_len]; exact Nat.le_refl _), mk4_len, Nat.sub_self, List.set_cons_zero, List.append_assoc]
  rfl
theorem bmz_set (bs : List Int) (k : Nat) (h : k < 80) : (bs ++ mz k).set (bs.length + k) (100 + (k : Int)) = bs ++ mz (k + 1) := by
  rw [List.set_append_right _ _ (by omega), Nat.add_sub_cancel_left, mz_set k h]
/-- The bytes turned about and changed. -/
def tn4 (bs : List Int) : List Int := xl bs.reverse 51
theorem tn4_len (bs : List Int) : (tn4 bs).length = bs.length := by simp [tn4, xl_len]
theorem tn4_bd (bs : List Int) : ∀ z ∈ tn4 bs, 0 ≤ z ∧ z < 256 := xl_bd _ _
theorem tn4_get (bs : List Int) (i : Nat) (h : i < bs.length) : (tn4 bs).getD i 0 = bits .xor .u8 (bs.getD (bs.length - 1 - i) 0) 51 := by
  rw [tn4, xl_get _ _ _ (by simpa using h), List.getD_eq_getElem?_getD, List.getElem?_reverse h, List.getD_eq_getElem?_getD]
theorem make_len (n : Nat) (hn : n ≤ 140737488355328) (w : World) : (Instr.makeSlice 22 (.int .i64 (n : Int)) (.int .i64 (n : Int))).run Tryd.prog w = .ok (.slice (some ⟨w.heap.size, 0, none⟩) n n) (w.alloc (.cells (irow .u8 (zr n)) 5)) := make_i64 n (by omega) w
theorem conv_bys {W : World} {v : Value} {bs : List Int} (h : Bys W v bs) : (convert 22 9 v).run Tryd.prog W = .ok (.string (strOfNums bs)) W := by
  obtain ⟨ao, cap, rfl, _, hc, _⟩ := h
  cases ao with
  | none =>
    have : bs = [] := by
      cases bs with
      | nil => rfl
      | cons x xs => obtain ⟨b, off, e, _⟩ := hc 0 (by simp); cases e
    subst this
    exact run_convert_bytes_nil W 22 5 Tryd.underlying22 Tryd.underlying5 _ _ 9 Tryd.underlying9
  | some ad =>
    rcases Nat.eq_zero_or_pos bs.length with e0 | e0
    · have : bs = [] := List.eq_nil_of_length_eq_zero e0
      subst this
      obtain ⟨b, off, sp⟩ := ad
      rw [run_convert_bytes_string W 22 9 5 _ _ _ Tryd.underlying22 Tryd.underlying5 Tryd.underlying9]
      have := run_bytesToString (P := Tryd.prog) W ⟨b, off, sp⟩ 0 cap [] (by rfl)
      exact this
    · obtain ⟨b, off, e, _⟩ := hc 0 e0
      cases e
      exact run_convert_bytes_arg W 22 5 Tryd.underlying22 Tryd.underlying5 b off bs.length cap bs rfl (fun i hi => by
        obtain ⟨b', off', e, _, h⟩ := hc i hi
        cases e
        exact h) 9 Tryd.underlying9
theorem str_inj {a b : List Int} (ha : ∀ z ∈ a, 0 ≤ z ∧ z < 256) (hb : ∀ z ∈ b, 0 ≤ z ∧ z < 256) (h : strOfNums a = strOfNums b) : a = b := by
  have h1 := congrArg (fun x => x.data.toList) h
  simp only [strOfNums_data] at h1
  have key : ∀ (a b : List Int), (∀ z ∈ a, 0 ≤ z ∧ z < 256) → (∀ z ∈ b, 0 ≤ z ∧ z < 256) → a.map (fun n => UInt8.ofNat n.toNat) = b.map (fun n => UInt8.ofNat n.toNat) → a = b := by
    intro a
    induction a with
    | nil => intro b _ _ h; cases b with
      | nil => rfl
      | cons y ys => simp at h
    | cons x xs ih => intro b ha hb h; cases b with
      | nil => simp at h
      | cons y ys =>
        simp only [List.map_cons, List.cons.injEq] at h
        have hx := ha x (by simp)
        have hy := hb y (by simp)
        have e := congrArg UInt8.toNat h.1
        simp only [UInt8.toNat_ofNat'] at e
        rw [Nat.mod_eq_of_lt (by omega), Nat.mod_eq_of_lt (by omega)] at e
        have exy : x = y := by omega
        rw [exy, ih ys (fun z h => ha z (by simp [h])) (fun z h => hb z (by simp [h])) h.2]
  exact key a b ha hb h1
theorem str_dec {a b : List Int} (ha : ∀ z ∈ a, 0 ≤ z ∧ z < 256) (hb : ∀ z ∈ b, 0 ≤ z ∧ z < 256) : ((strOfNums a).toList == (strOfNums b).toList) = decide (a = b) := by
  by_cases h : a = b
  · subst h; simp
  · rw [decide_eq_false h, beq_eq_false_iff_ne]
    intro e
    rw [ByteArray.toList_eq, ByteArray.toList_eq] at e
    exact h (str_inj ha hb (Go.WideShapes.bytes_inj e))
set_option maxRecDepth 100000 in
set_option maxHeartbeats 4000000 in
theorem l_same (a b : List Int) (w : World) (u v : Value) (hu : Bys w u a) (hv : Bys w v b) : Calls Tryd.prog 18 #[u, v] w fun e w' => e = .returned (.bool (decide (a = b))) ∧ Below w.heap.size w w' := by
  have c1 := conv_bys hu
  have c2 := conv_bys hv
  obtain ⟨ao, cap, rfl, _, _, hza⟩ := hu
  obtain ⟨bo, bcap, rfl, _, _, hzb⟩ := hv
  go_enter Tryd.func18, Tryd.ntmps18
  have hd := str_dec hza hzb
  go_wp2
  go_ret
  exact ⟨rfl, Below.refl _ _⟩
end Go.Proofs.YtmcokphkaekdaabDoor

namespace Go.Proofs.YtmcokphkaekdaabDoor
open Go Go.RowKit Go.Sort
attribute [local go_sem] setCell_drewN alloc_drewN

/-- A call that answers v in every world that keeps what was in w. -/
def GivesB (w : World) (f : FuncId) (args : Array Value) (v : Value) : Prop := ∀ W, Below w.heap.size w W → Calls Tryd.prog f args W fun e w' => e = .returned v ∧ Below W.heap.size W w'
theorem GivesB.keep {w W : World} {f : FuncId} {args : Array Value} {v : Value} (h : GivesB w f args v) (hb : Below w.heap.size w W) : GivesB W f args v := fun V hV => h V (Below.after hb hV)
theorem GivesB.re {w : World} {f : FuncId} {args : Array Value} {v : Value} (h : GivesB w f args v) {d : Nat} {os : Array Obj} : Calls Tryd.prog f args (grow (redrawn w d) os) fun e w'' => e = .returned v ∧ ∃ p : Regrown, w'' = grow (redrawn w p.d) p.os := Calls.regrown_of (h _ (below_regrown w d os))
theorem GivesB.at {w : World} {f : FuncId} {args : Array Value} {v : Value} (h : GivesB w f args v) : Calls Tryd.prog f args w fun e w' => e = .returned v ∧ Below w.heap.size w w' := h w (Below.refl _ _)
theorem eqHm (l : List Int) (hl : l.length = 32) (W : World) : (Op.equalIn 10000 25 (.agg (irow .u8 l)) (.agg (irow .u8 l))).run Tryd.prog W = .ok true W := by
  rw [eqK _ _ hl hl]; simp
end Go.Proofs.YtmcokphkaekdaabDoor

namespace Go.Proofs.YtmcokphkaekdaabDoor
open Go Go.RowKit Go.Sort
attribute [local go_sem] setCell_drewN alloc_drewN

/-- An append to a full row: a new block, no other turns. -/
theorem wpList_append_full {P : Program} (w : World) {ops : Array Oper} {rest : List Oper} {o : Oper} {a : Act} {Q : Exit → Act → World → Prop} (hgd : o.guard = none) (s x : Operand) (t : TypeId)
    (ho : o.op = .call { callee := .builtin .append, args := #[s, x], argTypes := #[t, t] })
    (base : Nat) (e : TypeId) (i : TypeInfo) (z : Value) (ht : P.underlying t = some (.slice e)) (hi : P.info? e = some i) (hz : i.zero = some z)
    (hsize : i.size = 1) (hby : i.bytes = 1) (hzs : z.cells.size = 1)
    (g n : Nat) (xs : List Value) (hs : a.eval s = .slice (some ⟨g, 0, none⟩) n n) (hown : w.ownsRow base e 1 (.slice (some ⟨g, 0, none⟩) n n) n xs)
    (ad : Addr) (m c : Nat) (news : List Value) (hx : a.eval x = .slice (some ad) m c) (hm : 0 < m) (hl : news.length = m * 1) (hnews : ∀ j u, news[j]? = some u → w.cell? (ad.add j) = some u) (h1 : ∀ u ∈ news, u.oneCell' = true)
    (h63 : n + m ≤ maxLen) (hbytes : (n + m) * 1 ≤ 140737488355328) (hbase : base ≤ w.heap.size)
    (h : ∀ v' w', w'.ownsRow w.heap.size e 1 v' (n + m) (xs ++ news) → w.grownBy w' none → wpList P ops Q rest (a.put o.dst v') w') : wpList P ops Q (o :: rest) a w := by
  refine wpList_plain hgd fun K hK => ?_
  obtain ⟨v', w', hr, h2, h3, _⟩ := run_append_own (P := P) w base t o.type e i z 1 1 ht hi hz hsize hby hzs (by decide) _ n xs hown ad m c news hl hnews h1 h63 hbytes hbase
  have holds : ∀ j u, xs[j]? = some u → w.cell? ((⟨g, 0, none⟩ : Addr).add j) = some u := hown.cells (g := g) rfl
  have hr2 := run_append_grow (P := P) w t o.type e i z ht hi hz ⟨g, 0, none⟩ n n xs (by rw [hsize]; exact hown.1) holds ad m c news (by rw [hsize]; exact hl) hnews (by omega) (by simp only [maxLen] at h63; omega) (growslice_fits (by omega) (by rw [hby]; exact hbytes))
  have hh := hr.symm.trans hr2
  injection hh with e1 e2
  have hown2 : w'.ownsRow w.heap.size e 1 v' (n + m) (xs ++ news) := by
    obtain ⟨q1, ⟨hv, _⟩ | ⟨g1, cap1, cur, hv, hbg, hq⟩⟩ := h2
    · rw [e1] at hv; cases hv
    · have hv' := e1.symm.trans hv
      cases hv'
      exact ⟨q1, .inr ⟨w.heap.size, _, cur, hv, Nat.le_refl _, hq⟩⟩
  have hgr : w.grownBy w' none := by
    rw [e2]
    have hq := World.grownBy_alloc w.drew (.cells (xs.toArray ++ news.toArray ++ Builtin.zeroCells z.cells (grownCap w (n + m) n e - (n + m))) e) none
    exact ⟨hq.os, hq.tape, hq.output, hq.size, hq.block⟩
  unfold Oper.wp execOp
  simp only [ho, resolve, invoke, builtin, Sem.run_bind, Sem.run_pure, Result.andThen_ok, List.map_toArray, List.map_cons, List.map_nil, hs, hx, hr]
  exact hK _ _ (h v' w' hown2 hgr)
/-- A list that was handed out: a full row, or nil. -/
def aptV (x : Option Nat × Nat) : Value := match x.1 with
  | some g => .slice (some ⟨g, 0, none⟩) x.2 x.2
  | none => .slice none 0 0
def aptN (x : Option Nat × Nat) : Nat := match x.1 with
  | some _ => x.2
  | none => 0
def aptA (x : Option Nat × Nat) : Option Addr := x.1.map fun g => ⟨g, 0, none⟩
theorem aptV_eq (x : Option Nat × Nat) : aptV x = .slice (aptA x) (aptN x) (aptN x) := by
  obtain ⟨_ | g, m⟩ := x <;> rfl
/-- The rows of such lists, with P of each. -/
def AptR (W : World) (xs : List (Option Nat × Nat)) (P : Nat → List Int → Prop) : Prop := ∀ (j g m : Nat), xs[j]? = some (some g, m) → ∃ l : List Int, l.length = m ∧ W.heap[g]? = some (.cells (irow .u8 l) 5 (0, 0)) ∧ P j l
def AptD (xs : List (Option Nat × Nat)) : Prop := ∀ (i j : Nat) (g m n : Nat), xs[i]? = some (some g, m) → xs[j]? = some (some g, n) → i = j
theorem AptR.mono {W : World} {xs : List (Option Nat × Nat)} {P Q : Nat → List Int → Prop} (h : AptR W xs P) (hq : ∀ (j : Nat) l g m, xs[j]? = some (some g, m) → l.length = m → P j l → Q j l) : AptR W xs Q := fun j g m hj => by
  obtain ⟨l, h1, h2, h3⟩ := h j g m hj
  exact ⟨l, h1, h2, hq _ _ _ _ hj h1 h3⟩
theorem AptR.kept {W W' : World} {xs : List (Option Nat × Nat)} {P : Nat → List Int → Prop} (h : AptR W xs P) (hb : Below W.heap.size W W') : AptR W' xs P := fun j g m hj => by
  obtain ⟨l, h1, h2, h3⟩ := h j g m hj
  exact ⟨l, h1, Go.Proofs.YtmcokphkaekdaabDoor.keep hb h2, h3⟩
theorem AptR.put {W : World} {xs : List (Option Nat × Nat)} {P Q : Nat → List Int → Prop} (h : AptR W xs P) (hd : AptD xs) {k g m t : Nat} {z : Int} (hk : xs[k]? = some (some g, m)) (hp : ∀ l, l.length = m → P k l → Q k (l.set t z)) (hq : ∀ j l, j ≠ k → P j l → Q j l) : AptR (W.setCell ⟨g, t, none⟩ (.int .u8 z)) xs Q := fun j g' m' hj => by
  obtain ⟨l, h1, h2, h3⟩ := h j g' m' hj
  by_cases e : g' = g
  · subst e
    obtain rfl := hd _ _ _ _ _ hk hj
    obtain ⟨_, rfl⟩ : True ∧ m = m' := ⟨trivial, by rw [hk] at hj; cases hj; rfl⟩
    exact ⟨l.set t z, by rw [List.length_set]; exact h1, irow_set h2 t z, hp l h1 h3⟩
  · refine ⟨l, h1, heap_other h2 e, hq j l (fun ej => e ?_) h3⟩
    subst ej
    rw [hk] at hj
    cases hj
    rfl
theorem getD_set_if (l : List Int) (t u : Nat) (z : Int) (h : t < l.length) : (l.set t z).getD u 0 = if u = t then z else l.getD u 0 := by
  rw [List.getD_eq_getElem?_getD, List.getD_eq_getElem?_getD, List.getElem?_set]
  by_cases e : t = u
  · subst e; simp [h]
  · rw [if_neg e, if_neg (Ne.symm e)]
theorem own_lower {W : World} {b c n : Nat} {e : TypeId} {v : Value} {ys : List Value} (h : W.ownsRow b e 1 v n ys) (hc : c ≤ b) : W.ownsRow c e 1 v n ys := by
  obtain ⟨q1, q2 | ⟨g1, cap1, cur, hv, hbg, hq⟩⟩ := h
  · exact ⟨q1, .inl q2⟩
  · exact ⟨q1, .inr ⟨g1, cap1, cur, hv, Nat.le_trans hc hbg, hq⟩⟩
theorem apt_some {x : Option Nat × Nat} {t : Nat} (h : t < aptN x) : ∃ g m, x = (some g, m) := by
  obtain ⟨_ | g, m⟩ := x
  · simp [aptN] at h
  · exact ⟨g, m, rfl⟩
theorem apt_row {W : World} {gl : Nat} {xs : List (Option Nat × Nat)} (hg : W.heap[gl]? = some (.cells (xs.map aptV).toArray 22 (0, 0))) (i : Nat) (hi : i < xs.length) : W.cell? ⟨gl, i, none⟩ = some (.slice (aptA (xs.getD i (none, 0))) (aptN (xs.getD i (none, 0))) (aptN (xs.getD i (none, 0)))) := by
  rw [cell_of hg (show (xs.map aptV).toArray[i]? = some (aptV (xs.getD i (none, 0))) by rw [List.getElem?_toArray, List.getElem?_map, List.getElem?_eq_getElem hi, List.getD_eq_getElem?_getD, List.getElem?_eq_getElem hi]; rfl), aptV_eq]
end Go.Proofs.YtmcokphkaekdaabDoor

namespace Go.Proofs.YtmcokphkaekdaabDoor
open Go Go.RowKit Go.Sort
attribute [local go_sem] setCell_drewN alloc_drewN

theorem ax_yes (key info : List Int) (n : Nat) (w : World) (vi : Value) (hS : Sta w) (hK : Kon w) (hkl : key.length = 32) (hkz : ∀ z ∈ key, 0 ≤ z ∧ z < 256) (hI : Bys w vi info) (hci : ∀ a l c, vi = .slice a l c → l ≤ c) (hil : info.length ≤ 4611686018427370000) (hn : n ≤ 8160) :
    Calls Tryd.prog 17 #[.agg (irow .u8 key), vi, .int .i64 (n : Int)] w fun e w' => ∃ v, e = .returned v ∧ ∃ g, v = .tuple #[.slice (some ⟨g, 0, none⟩) n n, .int .i64 0] ∧ w.heap.size ≤ g ∧ w'.heap[g]? = some (.cells (irow .u8 (xpd key info n)) 5 (0, 0)) ∧ Below w.heap.size w w' :=
  (a_expand key info n w vi hS hK hkl hkz hI hci hil hn).mono fun _ _ ⟨v, g, h1, h2⟩ => ⟨v, h1, g, h2⟩
theorem loadK {W : World} {g : Nat} {l : List Int} {t : TypeId} (hg : W.heap[g]? = some (.cells (irow .u8 l) t (0, 0))) (hl : l.length = 32) : (loadCells ⟨g, 0, none⟩ 32).run Tryd.prog W = .ok (irow .u8 l) W := by
  have h := run_loadCells_list (P := Tryd.prog) W ⟨g, 0, none⟩ (l.map (Value.int .u8)) (fun j v hj => by
    have hjl : j < l.length := by have := (List.getElem?_eq_some_iff.1 hj).1; simpa using this
    rw [addr_add, Nat.zero_add, irow_cell hg hjl]
    simp only [List.getElem?_map, List.getElem?_eq_getElem hjl, Option.map_some] at hj
    rw [← hj, List.getD_eq_getElem?_getD, List.getElem?_eq_getElem hjl]
    rfl)
  rw [List.length_map, hl] at h
  exact h
theorem l_same_eq (a : List Int) (w : World) (u v : Value) (hu : Bys w u a) (hv : Bys w v a) : Calls Tryd.prog 18 #[u, v] w fun e w' => e = .returned (.bool true) ∧ Below w.heap.size w w' := by
  have h := l_same a a w u v hu hv
  rw [decide_eq_true rfl] at h
  exact h
theorem aptT_nil (W : World) : AptR W [] fun _ _ => True := fun j g m h => by simp at h
theorem aptT_none {W : World} {m : Nat} {xs : List (Option Nat × Nat)} (h : AptR W xs fun _ _ => True) : AptR W ((none, m) :: xs) fun _ _ => True := fun j g m hj => by
  cases j with
  | zero => simp at hj
  | succ j => exact h j g m hj
theorem aptT_some {W : World} {g m : Nat} {l : List Int} {xs : List (Option Nat × Nat)} (hr : W.heap[g]? = some (.cells (irow .u8 l) 5 (0, 0))) (hl : l.length = m) (h : AptR W xs fun _ _ => True) : AptR W ((some g, m) :: xs) fun _ _ => True := fun j g' m' hj => by
  cases j with
  | zero => cases hj; exact ⟨l, hl, hr, trivial⟩
  | succ j => exact h j g' m' hj
theorem Bys.of_rowN {W : World} {g n : Nat} {l : List Int} {t : TypeId} (hg : W.heap[g]? = some (.cells (irow .u8 l) t (0, 0))) (hl : l.length ≤ 9223372036854775807) (hz : ∀ z ∈ l, 0 ≤ z ∧ z < 256) (hn : l.length = n) {cap : Nat} : Bys W (.slice (some ⟨g, 0, none⟩) n cap) l := by rw [← hn]; exact Bys.of_row hg hl hz cap
end Go.Proofs.YtmcokphkaekdaabDoor

namespace Go.Proofs.YtmcokphkaekdaabDoor
open Go Go.RowKit Go.Sort
attribute [local go_sem] setCell_drewN alloc_drewN

theorem ad_yes (salt sec info : List Int) (n : Nat) (w : World) (vs vc vi : Value) (hS : Sta w) (hK : Kon w) (hA : Bys w vs salt) (hca : ∀ a l c, vs = .slice a l c → l ≤ c) (hal : salt.length ≤ 4611686018427370000) (hC : Bys w vc sec) (hcc : ∀ a l c, vc = .slice a l c → l ≤ c) (hcl : sec.length ≤ 4611686018427370000) (hI : Bys w vi info) (hci : ∀ a l c, vi = .slice a l c → l ≤ c) (hil : info.length ≤ 4611686018427370000) (hn : n ≤ 8160) :
    Calls Tryd.prog 19 #[vs, vc, vi, .int .i64 (n : Int)] w fun e w' => ∃ v, e = .returned v ∧ ∃ g, v = .tuple #[.slice (some ⟨g, 0, none⟩) n n, .int .i64 0] ∧ w.heap.size ≤ g ∧ w'.heap[g]? = some (.cells (irow .u8 (xpd (hm salt sec) info n)) 5 (0, 0)) ∧ Below w.heap.size w w' := by
  refine (a_derive salt sec info (n : Int) w vs vc vi hS hK hA hca hal hC hcc hcl hI hci hil).mono ?_
  rintro e_ w' ⟨v, rfl, ⟨m, g, e1, hm, rfl, hg, r⟩ | ⟨hn', _⟩, hb⟩
  · obtain rfl : n = m := by omega
    exact ⟨_, rfl, g, rfl, hg, r, hb⟩
  · omega
theorem ad_no (salt sec info : List Int) (n : Int) (w : World) (vs vc vi : Value) (hS : Sta w) (hK : Kon w) (hA : Bys w vs salt) (hca : ∀ a l c, vs = .slice a l c → l ≤ c) (hal : salt.length ≤ 4611686018427370000) (hC : Bys w vc sec) (hcc : ∀ a l c, vc = .slice a l c → l ≤ c) (hcl : sec.length ≤ 4611686018427370000) (hI : Bys w vi info) (hci : ∀ a l c, vi = .slice a l c → l ≤ c) (hil : info.length ≤ 4611686018427370000) (hn : n < 0 ∨ 8160 < n) :
    Calls Tryd.prog 19 #[vs, vc, vi, .int .i64 n] w fun e w' => ∃ v, e = .returned v ∧ v = .tuple #[.slice none 0 0, .int .i64 (if n < 0 then 1 else 2)] ∧ Below w.heap.size w w' := by
  refine (a_derive salt sec info n w vs vc vi hS hK hA hca hal hC hcc hcl hI hci hil).mono ?_
  rintro e_ w' ⟨v, rfl, ⟨m, g, rfl, hm, rfl, hg, r⟩ | ⟨hn', rfl⟩, hb⟩
  · omega
  · exact ⟨_, rfl, rfl, hb⟩
end Go.Proofs.YtmcokphkaekdaabDoor

namespace Go.Proofs.YtmcokphkaekdaabDoor
open Go Go.RowKit Go.Sort
attribute [local go_sem] setCell_drewN alloc_drewN

theorem wrapI (x : Int) (h0 : 0 ≤ x) (h1 : x < 9223372036854775808) : IntKind.i64.wrap x = x := by
  have e : x % 2 ^ IntKind.i64.bits = x := Int.emod_eq_of_lt h0 (by show x < 2 ^ 64; omega)
  unfold IntKind.wrap
  simp only [e]
  rw [if_neg]
  simp only [IntKind.signed, IntKind.bits, Bool.true_and]
  intro h
  have h2 : x ≥ 2 ^ 63 := of_decide_eq_true h
  omega
/-- A list of sixty-four words is a block's. -/
def ckW (b L : List Int) : Bool := (List.range 64).all fun t => decide (L.getD t 0 = if t < 16 then wrd b t else (lo1 (L.getD (t - 2) 0) + L.getD (t - 7) 0 + lo0 (L.getD (t - 15) 0) + L.getD (t - 16) 0) % 4294967296)
theorem wds_of {b L : List Int} (h : ckW b L = true) : ∀ t, t < 64 → wds b t = L.getD t 0 := by
  have hc : ∀ t, t < 64 → L.getD t 0 = if t < 16 then wrd b t else (lo1 (L.getD (t - 2) 0) + L.getD (t - 7) 0 + lo0 (L.getD (t - 15) 0) + L.getD (t - 16) 0) % 4294967296 := fun t ht => of_decide_eq_true (List.all_eq_true.1 h t (List.mem_range.2 ht))
  intro t
  induction t using Nat.strongRecOn with
  | ind t ih =>
    intro ht
    rw [hc t ht]
    by_cases h16 : t < 16
    · rw [wds_lo b h16, if_pos h16]
    · rw [wds_hi b h16, if_neg h16, ih (t - 2) (by omega) (by omega), ih (t - 7) (by omega) (by omega), ih (t - 15) (by omega) (by omega), ih (t - 16) (by omega) (by omega)]
theorem rs_congr {h : List Int} {W V : Nat → Int} : ∀ t, (∀ j, j < t → W j = V j) → rs h W t = rs h V t
  | 0, _ => rfl
  | t + 1, e => by rw [rs, rs, rs_congr t (fun j hj => e j (by omega)), e t (by omega)]
theorem blk_of {h b L v : List Int} (hw : ckW b L = true) (hs : sums h (rs h (fun t => L.getD t 0) 64).list 8 = v) : blk h b = v := by
  rw [blk, rs_congr 64 (fun j hj => wds_of hw j hj), hs]
theorem sum_cert (m L0 L1 h1 h2 out : List Int) (q : (m ++ padL m.length).length / 64 = 2) (w0 : ckW (chunk (m ++ padL m.length) 0) L0 = true) (s0 : sums sl (rs sl (fun t => L0.getD t 0) 64).list 8 = h1) (w1 : ckW (chunk (m ++ padL m.length) 1) L1 = true) (s1 : sums h1 (rs h1 (fun t => L1.getD t 0) 64).list 8 = h2) (o : byts h2 = out) : sumL m = out := by
  rw [sumL, sumW, q, fol, fol, fol, blk_of w0 s0, blk_of w1 s1, o]
theorem hm_cert {key bs D out : List Int} (h1 : sumL (kin key ++ bs) = D) (h2 : sumL (kout key ++ D) = out) : hm key bs = out := by
  rw [hm, h1, h2]
theorem xpd_cert {K info T1 T2 : List Int} (h1 : hm K (info ++ [1]) = T1) (h2 : hm K (T1 ++ (info ++ [2])) = T2) : xpd K info 42 = (T1 ++ T2).take 42 := by
  have e1 : tp K info 1 = T1 := by rw [tp, tp, ← h1]; rfl
  have e2 : tp K info 2 = T2 := by rw [tp, e1, ← h2]; rfl
  rw [xpd]
  show (tall K info 2).take 42 = _
  rw [tall, tall, tall, e1, e2, List.nil_append]
set_option maxRecDepth 100000 in
theorem v_fox : hm [107, 101, 121] [84, 104, 101, 32, 113, 117, 105, 99, 107, 32, 98, 114, 111, 119, 110, 32, 102, 111, 120, 32, 106, 117, 109, 112, 115, 32, 111, 118, 101, 114, 32, 116, 104, 101, 32, 108, 97, 122, 121, 32, 100, 111, 103] = [247, 188, 131, 244, 48, 83, 132, 36, 177, 50, 152, 230, 170, 111, 177, 67, 239, 77, 89, 161, 73, 70, 23, 89, 151, 71, 157, 188, 45, 26, 60, 216] := hm_cert (sum_cert (kin [107, 101, 121] ++ [84, 104, 101, 32, 113, 117, 105, 99, 107, 32, 98, 114, 111, 119, 110, 32, 102, 111, 120, 32, 106, 117, 109, 112, 115, 32, 111, 118, 101, 114, 32, 116, 104, 101, 32, 108, 97, 122, 121, 32, 100, 111, 103]) [1565740854, 909522486, 909522486, 909522486, 909522486, 909522486, 909522486, 909522486, 909522486, 909522486, 909522486, 909522486, 909522486, 909522486, 909522486, 909522486, 1484848355, 828629987, 3046079234, 3776264696, 2791310139, 2408496505, 1432802191, 4279136217, 40131307, 3440696412, 2761625533, 3109296823, 2464963315, 15183730, 3262041459, 1301009130, 494097387, 911498773, 3591502981, 2081777627, 3068146072, 300753484, 4189014784, 316684472, 482755238, 1789643473, 2292660537, 4028708497, 808784977, 80985466, 663664670, 349427506, 1313325631, 3200613697, 3221973858, 3913925113, 1731109990, 3732668420, 293673707, 3227921096, 3874275074, 2802869092, 2861148269, 1991861016, 193996981, 1258338248, 2361588754, 3500943187] [1416127776, 1903520099, 1797284466, 1870097952, 1718581280, 1786080624, 1931505526, 1701978228, 1751457900, 1635416352, 1685022592, 0, 0, 0, 0, 856, 1215789539, 3369772837, 1438141474, 147128942, 1286988929, 2236494754, 777899669, 724914221, 1652101295, 2398219790, 395259173, 396037982, 4169268895, 345964178, 2628613065, 352212796, 3932672556, 519796785, 508523907, 1183815677, 2400673158, 3074333110, 2481456119, 3422383585, 4199991306, 1280787848, 2556776200, 1348430178, 1461863882, 3731819580, 3261972228, 655793655, 1593858064, 759378383, 2909831118, 1747216474, 2074102933, 814742857, 1817559613, 3837537694, 1229741528, 3742076030, 3133341155, 2462041720, 1251173789, 3836026743, 3546991780, 3660136386] [3463233850, 1209983353, 1948250410, 931006173, 2786082441, 1688769380, 1812149899, 2195516213] [2060471898, 2711547506, 405576309, 2893134355, 2201768956, 1305004053, 3468137581, 1445869105] [122, 208, 78, 90, 161, 158, 238, 114, 24, 44, 154, 117, 172, 113, 186, 19, 131, 60, 83, 252, 77, 200, 200, 21, 206, 183, 148, 109, 86, 46, 54, 49] (by decide +kernel) (by decide +kernel) (by decide +kernel) (by decide +kernel) (by decide +kernel) (by decide +kernel)) (sum_cert (kout [107, 101, 121] ++ [122, 208, 78, 90, 161, 158, 238, 114, 24, 44, 154, 117, 172, 113, 186, 19, 131, 60, 83, 252, 77, 200, 200, 21, 206, 183, 148, 109, 86, 46, 54, 49]) [926491996, 1549556828, 1549556828, 1549556828, 1549556828, 1549556828, 1549556828, 1549556828, 1549556828, 1549556828, 1549556828, 1549556828, 1549556828, 1549556828, 1549556828, 1549556828, 3714865294, 42962830, 71224041, 2467512273, 419793414, 1427315712, 3508693916, 3414310394, 2073676349, 1580214183, 1876669726, 817288029, 30058875, 2238447637, 3449114864, 1750348975, 1034487982, 1870231200, 1492350634, 2551253359, 1091581649, 2177230372, 3132317206, 1613577344, 4237171436, 3444518892, 3735190717, 1080276738, 825345298, 2577826517, 1725666600, 266232400, 3552217556, 3447915245, 1034235887, 1366263077, 762175820, 141195417, 1526492843, 3893978693, 2423250948, 2852858871, 495248698, 2978091584, 1082942764, 4181982254, 1183382068, 866141841] [2060471898, 2711547506, 405576309, 2893134355, 2201768956, 1305004053, 3468137581, 1445869105, 2147483648, 0, 0, 0, 0, 0, 0, 768, 3317470927, 1931967203, 1309560555, 4232161875, 2199878961, 1433815007, 96181441, 401345156, 2971748208, 3525689588, 2277224760, 3681548119, 68224421, 187918824, 3138597301, 763112752, 2900329290, 3674177272, 776586084, 4245826450, 2384189663, 3331990788, 3540178663, 3245945101, 1100636370, 1287433186, 1245692687, 906843348, 4020893555, 2410450418, 2964470209, 2794221402, 2330270090, 2633729803, 1156228097, 4175975732, 3162069086, 4157531122, 1351189059, 782109178, 3087681302, 1048681065, 2852675464, 2029214994, 3811510533, 3228741452, 4281665153, 2739037895] [1038912318, 2125183980, 2145836365, 388479433, 382557374, 3463237723, 1494055132, 2848212322] [4156326900, 810779684, 2972883174, 2859446595, 4014823841, 1229330265, 2538053052, 756694232] [247, 188, 131, 244, 48, 83, 132, 36, 177, 50, 152, 230, 170, 111, 177, 67, 239, 77, 89, 161, 73, 70, 23, 89, 151, 71, 157, 188, 45, 26, 60, 216] (by decide +kernel) (by decide +kernel) (by decide +kernel) (by decide +kernel) (by decide +kernel) (by decide +kernel))
set_option maxRecDepth 100000 in
theorem v_nil : hm [] [] = [182, 19, 103, 154, 8, 20, 217, 236, 119, 47, 149, 215, 120, 195, 95, 197, 255, 22, 151, 196, 147, 113, 86, 83, 198, 199, 18, 20, 66, 146, 197, 173] := hm_cert (sum_cert (kin [] ++ []) [909522486, 909522486, 909522486, 909522486, 909522486, 909522486, 909522486, 909522486, 909522486, 909522486, 909522486, 909522486, 909522486, 909522486, 909522486, 909522486, 828629987, 828629987, 3776264696, 3776264696, 2408496505, 2408496505, 3703810348, 3622917849, 4031120979, 2146747560, 3260165887, 2815092747, 4286359742, 592337967, 3066442673, 1154308805, 3381820581, 2642411924, 2658340976, 790776156, 3936322321, 1548620120, 1346974071, 2760948351, 3128084265, 3576817954, 3867676740, 2754198265, 855811989, 1459331653, 925716054, 1917319745, 3902710584, 3177888799, 4165673166, 1242241643, 1967333460, 718933646, 2081681304, 3384580195, 658678898, 1033513033, 3234119599, 4034058430, 2396173866, 61000443, 2165945604, 2579069648] [2147483648, 0, 0, 0, 0, 0, 0, 0, 0, 0, 0, 0, 0, 0, 0, 512, 2147483648, 20971520, 2117632, 20616, 570427392, 575995924, 84449090, 2684354592, 1518862336, 6067200, 1496221, 4202700544, 3543279056, 291985753, 4142317530, 3003913545, 145928272, 2642168871, 216179603, 2296832490, 2771075893, 1738633033, 3610378607, 1324035729, 1572820453, 2397971253, 3803995842, 2822718356, 1168996599, 921948365, 3650881000, 2958106055, 1773959876, 3172022107, 3820646885, 991993842, 419360279, 3797604839, 322392134, 85264541, 1326255876, 640108622, 822159570, 3328750644, 1107837388, 1657999800, 3852183409, 2242356356] [4099202733, 2535792975, 2430268064, 3742509290, 1692759311, 2744271233, 2185925419, 4175449650] [3878403405, 1117440276, 2829501885, 1231237110, 2953662447, 1118811203, 4038591613, 4033643986] [231, 43, 189, 77, 66, 154, 201, 20, 168, 166, 197, 189, 73, 99, 47, 246, 176, 13, 79, 239, 66, 175, 180, 67, 240, 184, 4, 125, 240, 108, 133, 210] (by decide +kernel) (by decide +kernel) (by decide +kernel) (by decide +kernel) (by decide +kernel) (by decide +kernel)) (sum_cert (kout [] ++ [231, 43, 189, 77, 66, 154, 201, 20, 168, 166, 197, 189, 73, 99, 47, 246, 176, 13, 79, 239, 66, 175, 180, 67, 240, 184, 4, 125, 240, 108, 133, 210]) [1549556828, 1549556828, 1549556828, 1549556828, 1549556828, 1549556828, 1549556828, 1549556828, 1549556828, 1549556828, 1549556828, 1549556828, 1549556828, 1549556828, 1549556828, 1549556828, 42962830, 42962830, 2467512273, 2467512273, 1427315712, 1427315712, 1249001928, 4037375226, 1809826037, 2826030956, 2886905781, 872774085, 1469776800, 1590296612, 3537354104, 133472730, 3554710565, 4062847664, 2657847936, 216629829, 891106106, 586986791, 1227446114, 2824269971, 2665413624, 3263572534, 775620046, 3292793133, 542824600, 840372110, 1326296352, 2178981808, 4036745216, 1824838472, 3842077899, 1596028657, 1666037942, 2687211640, 3302866841, 3022413000, 1930114701, 3862987069, 3425946126, 4202727519, 918644712, 1850158742, 4178356858, 1365291507] [3878403405, 1117440276, 2829501885, 1231237110, 2953662447, 1118811203, 4038591613, 4033643986, 2147483648, 0, 0, 0, 0, 0, 0, 768, 2042575203, 598067241, 1382921180, 1092021291, 2202992977, 3541650942, 3958644533, 178279665, 804027820, 1934737389, 4068431167, 1801897214, 320726691, 2800631971, 1524728299, 536142871, 36254232, 3805423660, 1657676815, 412830594, 3046563981, 1813400218, 2933921196, 999842265, 3598641367, 3353225525, 4108631770, 813209095, 192433196, 1831918571, 3671060795, 3922647203, 2686999280, 718692840, 2400707038, 3604077068, 3686502092, 1732471487, 4239030454, 3274252720, 1845550752, 2425922155, 1849983951, 2617490701, 835200059, 2742970757, 2706529429, 899933550] [3548727311, 2059101303, 935970104, 1574446183, 2382641778, 1966355632, 3736610840, 907888038] [3054725018, 135584236, 1999607255, 2026069957, 4279670724, 2473678419, 3334935060, 1116915117] [182, 19, 103, 154, 8, 20, 217, 236, 119, 47, 149, 215, 120, 195, 95, 197, 255, 22, 151, 196, 147, 113, 86, 83, 198, 199, 18, 20, 66, 146, 197, 173] (by decide +kernel) (by decide +kernel) (by decide +kernel) (by decide +kernel) (by decide +kernel) (by decide +kernel))
set_option maxRecDepth 100000 in
theorem v_ext : hm [0, 1, 2, 3, 4, 5, 6, 7, 8, 9, 10, 11, 12] [11, 11, 11, 11, 11, 11, 11, 11, 11, 11, 11, 11, 11, 11, 11, 11, 11, 11, 11, 11, 11, 11] = [7, 119, 9, 54, 44, 46, 50, 223, 13, 220, 63, 13, 196, 123, 186, 99, 144, 182, 199, 59, 181, 15, 156, 49, 34, 236, 132, 74, 215, 194, 179, 229] := hm_cert (sum_cert (kin [0, 1, 2, 3, 4, 5, 6, 7, 8, 9, 10, 11, 12] ++ [11, 11, 11, 11, 11, 11, 11, 11, 11, 11, 11, 11, 11, 11, 11, 11, 11, 11, 11, 11, 11, 11]) [909587509, 842215473, 1044331581, 976631350, 909522486, 909522486, 909522486, 909522486, 909522486, 909522486, 909522486, 909522486, 909522486, 909522486, 909522486, 909522486, 4067166117, 4176383271, 3729748756, 4003253340, 2876439237, 1395777857, 1973702652, 3697652872, 3295201273, 1754217796, 2267867713, 1105261243, 1490581223, 4196163145, 796689231, 4088555497, 543614175, 3993037237, 1715891977, 3520519854, 2426106532, 486934527, 2811232072, 2597289587, 4250942056, 3374473093, 3042644427, 244310664, 4227221402, 1780852143, 163067316, 1527205083, 1382651823, 2030181214, 1581247690, 2755876358, 2198998823, 1662361123, 1960827148, 718481170, 326391247, 1685547669, 3815243465, 2769457055, 2592874324, 1499747830, 802294681, 1070700149] [185273099, 185273099, 185273099, 185273099, 185273099, 185303040, 0, 0, 0, 0, 0, 0, 0, 0, 0, 688, 3770728640, 3788423360, 1493245192, 2566971438, 2578831540, 2000707480, 1466611018, 82028063, 3991436469, 13530892, 3405255044, 2401078423, 2181079487, 3479545432, 2857916378, 61261893, 815156264, 3334591028, 1305845998, 4204250243, 4151685088, 1872295283, 2488641669, 47305310, 2617052911, 917786093, 1240793365, 2097529610, 3560461332, 1939836913, 105577783, 2604150987, 2388661178, 3962294377, 3219922092, 365641081, 3480381311, 3799926929, 2008659321, 243791417, 1140328233, 1616939620, 3468288694, 3339263435, 2472361886, 1783540314, 3578712240, 3219883392] [1784750611, 2853270880, 3180738319, 2658168091, 2684039533, 1518253954, 2643136863, 2237080248] [4096779594, 235279805, 3390916088, 2846254001, 863980144, 1509551393, 3631672609, 713664059] [244, 47, 229, 74, 14, 6, 21, 189, 202, 29, 69, 248, 169, 166, 99, 177, 51, 127, 74, 112, 89, 249, 237, 33, 216, 118, 237, 33, 42, 137, 166, 59] (by decide +kernel) (by decide +kernel) (by decide +kernel) (by decide +kernel) (by decide +kernel) (by decide +kernel)) (sum_cert (kout [0, 1, 2, 3, 4, 5, 6, 7, 8, 9, 10, 11, 12] ++ [244, 47, 229, 74, 14, 6, 21, 189, 202, 29, 69, 248, 169, 166, 99, 177, 51, 127, 74, 112, 89, 249, 237, 33, 216, 118, 237, 33, 42, 137, 166, 59]) [1549622879, 1482250843, 1414878807, 1348230236, 1549556828, 1549556828, 1549556828, 1549556828, 1549556828, 1549556828, 1549556828, 1549556828, 1549556828, 1549556828, 1549556828, 1549556828, 1234812246, 1277181660, 1065444711, 1770226807, 4209866053, 260838892, 1896994386, 3529679624, 513798715, 1171509692, 1902202967, 2389103724, 2454299956, 573220380, 3103485068, 1303840070, 705878393, 2960192357, 142613686, 767076014, 125671981, 4016424156, 3762716046, 3768825268, 1153331252, 4018399244, 317894933, 826342626, 635570848, 966780887, 573091550, 3806119320, 1040888981, 668467213, 3068183287, 2417196051, 2401984619, 2179608041, 938920387, 1848350805, 680964649, 3923718965, 802411602, 110241694, 2301226177, 1552606392, 2032607372, 3135736743] [4096779594, 235279805, 3390916088, 2846254001, 863980144, 1509551393, 3631672609, 713664059, 2147483648, 0, 0, 0, 0, 0, 0, 768, 4074992231, 3381638768, 2414670017, 201301201, 1285484455, 2078314219, 2637579697, 2233688913, 869885724, 1842391982, 2875262623, 2371387167, 530024328, 3448088265, 3105246607, 2827516999, 1699440656, 1430512731, 984951570, 3073239125, 1161534446, 1609909747, 1876210360, 1553635217, 3552070153, 760250945, 3228993784, 371710538, 4168744967, 4009174289, 3678402596, 3904512060, 3671085418, 3552933550, 992613011, 4164206631, 998606651, 2229891338, 1490100162, 3913424619, 4209905156, 12417525, 3760313404, 4134517434, 1162659527, 517519650, 2901752502, 168838420] [2112077073, 3057433206, 2552936001, 4191071174, 3687650927, 303284172, 864514861, 4109337351] [125241654, 741225183, 232537869, 3296442979, 2427897659, 3037699121, 585925706, 3619861477] [7, 119, 9, 54, 44, 46, 50, 223, 13, 220, 63, 13, 196, 123, 186, 99, 144, 182, 199, 59, 181, 15, 156, 49, 34, 236, 132, 74, 215, 194, 179, 229] (by decide +kernel) (by decide +kernel) (by decide +kernel) (by decide +kernel) (by decide +kernel) (by decide +kernel))
set_option maxRecDepth 100000 in
theorem v_t1 : hm [7, 119, 9, 54, 44, 46, 50, 223, 13, 220, 63, 13, 196, 123, 186, 99, 144, 182, 199, 59, 181, 15, 156, 49, 34, 236, 132, 74, 215, 194, 179, 229] ([240, 241, 242, 243, 244, 245, 246, 247, 248, 249] ++ [1]) = [60, 178, 95, 37, 250, 172, 213, 122, 144, 67, 79, 100, 208, 54, 47, 42, 45, 45, 10, 144, 207, 26, 90, 76, 93, 176, 45, 86, 236, 196, 197, 191] := hm_cert (sum_cert (kin [7, 119, 9, 54, 44, 46, 50, 223, 13, 220, 63, 13, 196, 123, 186, 99, 144, 182, 199, 59, 181, 15, 156, 49, 34, 236, 132, 74, 215, 194, 179, 229] ++ ([240, 241, 242, 243, 244, 245, 246, 247, 248, 249] ++ [1])) [826359552, 437781737, 1005193531, 4065168469, 2793468173, 2201594375, 349876860, 3790898643, 909522486, 909522486, 909522486, 909522486, 909522486, 909522486, 909522486, 909522486, 362101656, 560129854, 2207449768, 2345846034, 867795864, 1235723900, 3612236873, 110406816, 609765236, 1689650872, 3566052133, 346616897, 3435689880, 1499020450, 1493063645, 2430678995, 485461174, 889680696, 1429228750, 126347843, 3577157201, 3378717700, 1040117628, 391352352, 28333982, 2917796654, 3137225901, 1688252810, 2177529096, 178185073, 3709864683, 3438230729, 2029937370, 4011104342, 862486221, 3842361412, 3930681368, 1202851213, 1206974310, 25937110, 541082936, 1497728675, 4269203364, 1593225926, 3643843302, 2959141344, 1761351218, 2053670568] [4042388211, 4109760247, 4177068416, 0, 0, 0, 0, 0, 0, 0, 0, 0, 0, 0, 0, 600, 2109512449, 1424745220, 3623419855, 2381814288, 1613492028, 1047079587, 2321660227, 768015796, 1083641622, 2036392627, 4101072810, 3443358432, 3716572050, 2625694122, 3689501422, 3588949137, 1966049581, 3874492719, 2969966986, 85189495, 3617480870, 2687417126, 793603508, 355235446, 2489345316, 4075025041, 3189699244, 3539063595, 2711955950, 839111858, 455834353, 2970893541, 2173434791, 3287388869, 485808555, 1899559033, 4178978883, 1432636250, 2760623141, 2256114847, 3022979357, 4209722889, 3372842998, 454015854, 508192513, 1096492352, 4085649829, 4248257842] [2708201138, 2739390184, 1993108387, 1912807976, 2069960831, 48012388, 3116256915, 646972855] [3868559890, 2521607390, 1150162983, 2662202585, 2070949233, 1785851573, 2041541868, 2226943006] [230, 149, 138, 18, 150, 76, 172, 222, 68, 142, 24, 39, 158, 173, 252, 217, 123, 112, 45, 113, 106, 113, 238, 181, 121, 175, 116, 236, 132, 188, 116, 30] (by decide +kernel) (by decide +kernel) (by decide +kernel) (by decide +kernel) (by decide +kernel) (by decide +kernel)) (sum_cert (kout [7, 119, 9, 54, 44, 46, 50, 223, 13, 220, 63, 13, 196, 123, 186, 99, 144, 182, 199, 59, 181, 15, 156, 49, 34, 236, 132, 74, 215, 194, 179, 229] ++ [230, 149, 138, 18, 150, 76, 172, 222, 68, 142, 24, 39, 158, 173, 252, 217, 123, 112, 45, 113, 106, 113, 238, 181, 121, 175, 116, 236, 132, 188, 116, 30]) [1529566570, 1886547587, 1367368529, 2552751679, 3437927271, 3914580077, 2125518870, 2342449081, 1549556828, 1549556828, 1549556828, 1549556828, 1549556828, 1549556828, 1549556828, 1549556828, 4035500425, 583587421, 3143760146, 3612294915, 598765630, 3543352424, 3936874739, 3940134036, 698775768, 2680477678, 3410835452, 358505965, 283571306, 3497455878, 2417402086, 1747778397, 2686784749, 492008078, 3423293599, 596030295, 3513825629, 4191208643, 4264671109, 823673575, 793013436, 1106472847, 4203766005, 740090562, 4077004558, 855005848, 2710300619, 134515593, 880843369, 3738830675, 1568597060, 3923279521, 1562269187, 1173788265, 3238378086, 1713038287, 1171048749, 3113516996, 2608236445, 3283477531, 1823575110, 3174763815, 826965422, 659364872] [3868559890, 2521607390, 1150162983, 2662202585, 2070949233, 1785851573, 2041541868, 2226943006, 2147483648, 0, 0, 0, 0, 0, 0, 768, 1801991011, 1480440565, 1144233669, 4020551800, 1414707328, 1836589034, 3045983037, 221768853, 2584857323, 1343162763, 3417504432, 3123935812, 2410983419, 2278705598, 3491317762, 3476963900, 3619097455, 1931095414, 1066205278, 1986365773, 3672090193, 2688132490, 2100983900, 2182610626, 1596597030, 1451402990, 3634092581, 1776910618, 3320386429, 1130657113, 4010274269, 3926012091, 2743151399, 2780776016, 1355378452, 3650356148, 551984068, 975588116, 1892009856, 3792815510, 3755750577, 666401299, 2832300620, 1694218054, 974219861, 3200681609, 1346579065, 1872203352] [1440055723, 2838736765, 208627038, 3485149605, 1361890849, 1284592081, 558188339, 2939309240] [1018322725, 4205630842, 2420330340, 3493211946, 757926544, 3474610764, 1571827030, 3972318655] [60, 178, 95, 37, 250, 172, 213, 122, 144, 67, 79, 100, 208, 54, 47, 42, 45, 45, 10, 144, 207, 26, 90, 76, 93, 176, 45, 86, 236, 196, 197, 191] (by decide +kernel) (by decide +kernel) (by decide +kernel) (by decide +kernel) (by decide +kernel) (by decide +kernel))
set_option maxRecDepth 100000 in
theorem v_t2 : hm [7, 119, 9, 54, 44, 46, 50, 223, 13, 220, 63, 13, 196, 123, 186, 99, 144, 182, 199, 59, 181, 15, 156, 49, 34, 236, 132, 74, 215, 194, 179, 229] ([60, 178, 95, 37, 250, 172, 213, 122, 144, 67, 79, 100, 208, 54, 47, 42, 45, 45, 10, 144, 207, 26, 90, 76, 93, 176, 45, 86, 236, 196, 197, 191] ++ ([240, 241, 242, 243, 244, 245, 246, 247, 248, 249] ++ [2])) = [52, 0, 114, 8, 213, 184, 135, 24, 88, 101, 180, 176, 168, 90, 153, 59, 137, 185, 182, 86, 131, 214, 15, 1, 6, 210, 143, 255, 3, 157, 11, 111] := hm_cert (sum_cert (kin [7, 119, 9, 54, 44, 46, 50, 223, 13, 220, 63, 13, 196, 123, 186, 99, 144, 182, 199, 59, 181, 15, 156, 49, 34, 236, 132, 74, 215, 194, 179, 229] ++ ([60, 178, 95, 37, 250, 172, 213, 122, 144, 67, 79, 100, 208, 54, 47, 42, 45, 45, 10, 144, 207, 26, 90, 76, 93, 176, 45, 86, 236, 196, 197, 191] ++ ([240, 241, 242, 243, 244, 245, 246, 247, 248, 249] ++ [2]))) [826359552, 437781737, 1005193531, 4065168469, 2793468173, 2201594375, 349876860, 3790898643, 909522486, 909522486, 909522486, 909522486, 909522486, 909522486, 909522486, 909522486, 362101656, 560129854, 2207449768, 2345846034, 867795864, 1235723900, 3612236873, 110406816, 609765236, 1689650872, 3566052133, 346616897, 3435689880, 1499020450, 1493063645, 2430678995, 485461174, 889680696, 1429228750, 126347843, 3577157201, 3378717700, 1040117628, 391352352, 28333982, 2917796654, 3137225901, 1688252810, 2177529096, 178185073, 3709864683, 3438230729, 2029937370, 4011104342, 862486221, 3842361412, 3930681368, 1202851213, 1206974310, 25937110, 541082936, 1497728675, 4269203364, 1593225926, 3643843302, 2959141344, 1761351218, 2053670568] [1018322725, 4205630842, 2420330340, 3493211946, 757926544, 3474610764, 1571827030, 3972318655, 4042388211, 4109760247, 4177068672, 0, 0, 0, 0, 856, 296145866, 4267615068, 138907757, 3180107394, 2119469978, 1429321530, 2239823997, 1897785187, 472600717, 2865628579, 2027274310, 1084464985, 2909240634, 1104716063, 1929724560, 2211227291, 3562809049, 2113267092, 400038928, 3542910954, 3783257230, 1192769035, 3327522280, 820877144, 2986269386, 803984510, 1599479459, 1922514664, 3759225378, 4278642675, 1832447897, 2241400000, 3431798875, 2868244159, 2814284994, 4172224898, 2370282617, 3629929195, 1177161608, 3599219319, 2950074809, 3437744633, 64169183, 706381488, 4047786327, 1565574604, 3104191637, 2547440068] [2708201138, 2739390184, 1993108387, 1912807976, 2069960831, 48012388, 3116256915, 646972855] [766239850, 2622750729, 550760275, 2585969544, 811012804, 654802551, 2732647054, 3409480559] [45, 171, 228, 106, 156, 84, 0, 9, 32, 211, 239, 83, 154, 34, 195, 136, 48, 87, 18, 196, 39, 7, 126, 119, 162, 224, 226, 142, 203, 56, 139, 111] (by decide +kernel) (by decide +kernel) (by decide +kernel) (by decide +kernel) (by decide +kernel) (by decide +kernel)) (sum_cert (kout [7, 119, 9, 54, 44, 46, 50, 223, 13, 220, 63, 13, 196, 123, 186, 99, 144, 182, 199, 59, 181, 15, 156, 49, 34, 236, 132, 74, 215, 194, 179, 229] ++ [45, 171, 228, 106, 156, 84, 0, 9, 32, 211, 239, 83, 154, 34, 195, 136, 48, 87, 18, 196, 39, 7, 126, 119, 162, 224, 226, 142, 203, 56, 139, 111]) [1529566570, 1886547587, 1367368529, 2552751679, 3437927271, 3914580077, 2125518870, 2342449081, 1549556828, 1549556828, 1549556828, 1549556828, 1549556828, 1549556828, 1549556828, 1549556828, 4035500425, 583587421, 3143760146, 3612294915, 598765630, 3543352424, 3936874739, 3940134036, 698775768, 2680477678, 3410835452, 358505965, 283571306, 3497455878, 2417402086, 1747778397, 2686784749, 492008078, 3423293599, 596030295, 3513825629, 4191208643, 4264671109, 823673575, 793013436, 1106472847, 4203766005, 740090562, 4077004558, 855005848, 2710300619, 134515593, 880843369, 3738830675, 1568597060, 3923279521, 1562269187, 1173788265, 3238378086, 1713038287, 1171048749, 3113516996, 2608236445, 3283477531, 1823575110, 3174763815, 826965422, 659364872] [766239850, 2622750729, 550760275, 2585969544, 811012804, 654802551, 2732647054, 3409480559, 2147483648, 0, 0, 0, 0, 0, 0, 768, 777794430, 4156756489, 1933668538, 3497408973, 4225819467, 883770206, 4110283511, 341759616, 3202043302, 618041291, 2680059954, 2448860829, 669398804, 2092366435, 4068492648, 1451688631, 1190011871, 523934388, 3936052944, 3334526740, 1112288315, 642944215, 2517807740, 4246031928, 512490388, 119156527, 1777916819, 3358358578, 1020385653, 2741376882, 1811995926, 2100995116, 2427416690, 4109555339, 225165212, 2868917799, 2544131771, 4156727689, 4124271351, 1737909122, 3317560103, 792115751, 3227053124, 2246865512, 354815795, 1722754264, 2556960975, 3842981987] [1440055723, 2838736765, 208627038, 3485149605, 1361890849, 1284592081, 558188339, 2939309240] [872444424, 3585640216, 1483060400, 2824509755, 2310649430, 2211843841, 114462719, 60623727] [52, 0, 114, 8, 213, 184, 135, 24, 88, 101, 180, 176, 168, 90, 153, 59, 137, 185, 182, 86, 131, 214, 15, 1, 6, 210, 143, 255, 3, 157, 11, 111] (by decide +kernel) (by decide +kernel) (by decide +kernel) (by decide +kernel) (by decide +kernel) (by decide +kernel))
set_option maxRecDepth 100000 in
theorem v_okm : xpd [7, 119, 9, 54, 44, 46, 50, 223, 13, 220, 63, 13, 196, 123, 186, 99, 144, 182, 199, 59, 181, 15, 156, 49, 34, 236, 132, 74, 215, 194, 179, 229] [240, 241, 242, 243, 244, 245, 246, 247, 248, 249] 42 = [60, 178, 95, 37, 250, 172, 213, 122, 144, 67, 79, 100, 208, 54, 47, 42, 45, 45, 10, 144, 207, 26, 90, 76, 93, 176, 45, 86, 236, 196, 197, 191, 52, 0, 114, 8, 213, 184, 135, 24, 88, 101] := by
  rw [xpd_cert v_t1 v_t2]
  rfl
theorem step_append_any {P : Program} (w : World) {ops : Array Oper} {o : Oper} {a : Act} {K : Act → World → Prop} {Q : Exit → Act → World → Prop} {E : Prop} (hgd : o.guard = none) (s x : Operand) (t : TypeId)
    (ho : o.op = .call { callee := .builtin .append, args := #[s, x], argTypes := #[t, t] })
    (base : Nat) (e : TypeId) (i : TypeInfo) (z : Value) (ht : P.underlying t = some (.slice e)) (hi : P.info? e = some i) (hz : i.zero = some z)
    (hsize : i.size = 1) (hby : i.bytes = 1) (hzs : z.cells.size = 1)
    (v : Value) (n : Nat) (xs : List Value) (hs : a.eval s = v) (hown : w.ownsRow base e 1 v n xs)
    (ao : Option Addr) (m c : Nat) (news : List Value) (hx : a.eval x = .slice ao m c) (hl : news.length = m * 1) (hnone : ao = none → m = 0 ∧ c = 0) (hnews : ∀ ad, ao = some ad → ∀ j u, news[j]? = some u → w.cell? (ad.add j) = some u) (h1 : ∀ u ∈ news, u.oneCell' = true)
    (h63 : n + m ≤ maxLen) (hbytes : (n + m) * 1 ≤ 140737488355328) (hbase : base ≤ w.heap.size)
    (h : ∀ v' w', w'.ownsRow base e 1 v' (n + m) (xs ++ news) → w.grownBy w' v.ownBlock → K (a.put o.dst v') w') : if Region.wanted o (yielded ops a.tmps) = true then Oper.wp P o a w K Q else E := by
  have hw : Region.wanted o (yielded ops a.tmps) = true := by simp [Region.wanted, hgd]
  rw [if_pos hw]
  cases ao with
  | some ad => exact wp_append_own w s x t ho base e i z 1 1 ht hi hz hsize hby hzs (by decide) v n xs hs hown ad m c news hx hl (hnews ad rfl) h1 h63 hbytes hbase (fun v' w' h2 h3 _ => h v' w' h2 h3)
  | none =>
    obtain ⟨rfl, rfl⟩ := hnone rfl
    have hn0 : news = [] := List.eq_nil_of_length_eq_zero (by simpa using hl)
    subst hn0
    have hrun := run_append_owned_none (P := P) w base t o.type e i 1 ht hi _ n xs hown
    unfold Oper.wp
    simp [execOp, ho, resolve, invoke, builtin, hs, hx, hrun, Result.andThen]
    have h_ := h v w (by simpa using hown) (World.grownBy.refl _ _)
    exact h_
theorem own_form {W : World} {b n : Nat} {v : Value} {xs : List Value} (h : W.ownsRow b 5 1 v n xs) : ∃ ao cap, v = .slice ao n cap ∧ (ao = none → cap = 0) ∧ (∀ a, ao = some a → b ≤ a.block ∧ a.block < W.heap.size) := by
  obtain ⟨h1, ⟨rfl, rfl⟩ | ⟨g, cap, cur, rfl, hb, hg, hn, hm, hs, ht⟩⟩ := h
  · exact ⟨none, 0, rfl, fun _ => rfl, fun a h => by cases h⟩
  · exact ⟨_, cap, rfl, (fun h => by cases h), (fun a h => by cases h; exact ⟨hb, lt_of_row hg⟩)⟩
theorem own_block {b n cap : Nat} {ao : Option Addr} (h : ∀ a, ao = some a → b ≤ a.block) : ∀ k, (Value.slice ao n cap).ownBlock = some k → b ≤ k := by
  intro k hk
  cases ao with
  | none => cases hk
  | some a =>
    have : a.block = k := by simpa [Value.ownBlock] using hk
    rw [← this]; exact h a rfl
/-- A hexadecimal digit's number. -/
def hx (c : Int) : Int := if 97 ≤ c then c - 87 else c - 48
def isHx (c : Int) : Prop := (48 ≤ c ∧ c ≤ 57) ∨ (97 ≤ c ∧ c ≤ 102)
instance (c : Int) : Decidable (isHx c) := inferInstanceAs (Decidable (_ ∨ _))
def sb (s : ByteArray) (j : Nat) : Int := (s.data.getD j 0).toNat
def vb (s : ByteArray) (j : Nat) : Int := hx (sb s (2 * j)) * 16 + hx (sb s (2 * j + 1))
def hxl (s : ByteArray) (n : Nat) : List Int := (List.range n).map (vb s)
theorem hxl_len (s : ByteArray) (n : Nat) : (hxl s n).length = n := by simp [hxl]
theorem hxl_succ (s : ByteArray) (n : Nat) : hxl s (n + 1) = hxl s n ++ [vb s n] := by simp [hxl, List.range_succ]
theorem hx_bd {c : Int} (h : isHx c) : 0 ≤ hx c ∧ hx c < 16 := by
  unfold isHx at h
  unfold hx
  split <;> omega
theorem hxl_bd (s : ByteArray) (n : Nat) (hh : ∀ j, j < 2 * n → isHx (sb s j)) : ∀ z ∈ hxl s n, 0 ≤ z ∧ z < 256 := by
  intro z hz
  simp only [hxl, List.mem_map, List.mem_range] at hz
  obtain ⟨j, hj, rfl⟩ := hz
  have h1 := hx_bd (hh (2 * j) (by omega))
  have h2 := hx_bd (hh (2 * j + 1) (by omega))
  unfold vb
  omega
set_option maxHeartbeats 4000000 in
theorem digit_any {c : Int} (h : isHx c) : Gives 30 #[.int .u8 c] (.int .u8 (hx c)) := by
  intro w
  unfold isHx at h
  by_cases h9 : 97 ≤ c
  · have hd : decide ((97 : Int) ≤ c) = true := decide_eq_true h9
    have e : hx c = c - 97 + 10 := by unfold hx; rw [if_pos h9]; omega
    rw [e]
    go_enter Tryd.func30, Tryd.ntmps30
    go_wp2
    go_ret
    exact ⟨rfl, Below.refl _ _⟩
  · have hd : decide ((97 : Int) ≤ c) = false := decide_eq_false h9
    have e : hx c = c - 48 := by unfold hx; rw [if_neg h9]
    rw [e]
    go_enter Tryd.func30, Tryd.ntmps30
    go_wp2
    go_ret
    exact ⟨rfl, Below.refl _ _⟩
theorem index_sb (s : ByteArray) (i : Int) (j : Nat) (hi : i = (j : Int)) (hj : j < s.size) (W : World) : (Instr.index 9 (.string s) (.int .i64 i)).run Tryd.prog W = .ok (.int .u8 (sb s j)) W := by
  subst hi
  rw [run_index_string W 9 s .i64 j Tryd.underlying9, dif_pos ⟨by omega, by omega⟩]
  have e : sb s j = (s[((j : Int)).toNat]'(by simp; omega)).toNat := by
    unfold sb
    have h2 : j < s.size := by omega
    simp [Array.getD, h2]
    rfl
  rw [e]
set_option maxRecDepth 100000 in
set_option maxHeartbeats 4000000 in
theorem l_hex (s : ByteArray) (n : Nat) (hs : s.size = 2 * n) (hn : n ≤ 1000) (hh : ∀ j, j < 2 * n → isHx (sb s j)) (w : World) : Calls Tryd.prog 22 #[.string s] w fun e w' => ∃ v, e = .returned v ∧ w'.ownsRow w.heap.size 5 1 v n ((hxl s n).map (Value.int .u8)) ∧ Below w.heap.size w w' := by
  obtain ⟨i0, hi, hz0, hz1, hz2⟩ := info8
  have hown0 : w.ownsRow w.heap.size 5 1 (.slice none 0 0) 0 ((hxl s 0).map (Value.int .u8)) := ⟨rfl, .inl ⟨rfl, rfl⟩⟩
  go_enter Tryd.func22, Tryd.ntmps22
  go_wp2_with (fail)
  go_loopw [3, 4] (fun x i wr => ∃ k : Nat, k ≤ n ∧ i = .int .i64 ((2 * k : Nat) : Int) ∧ wr.ownsRow w.heap.size 5 1 x k ((hxl s k).map (Value.int .u8)) ∧ Below w.heap.size w wr) (fun _ i _ => 2 * n - (intOf i).toNat)
  case atStart => exact ⟨0, by omega, rfl, hown0, Below.refl _ _⟩
  case round =>
    clear hown0
    obtain ⟨k, hk, rfl, hown, hw⟩ := hrel
    obtain ⟨aox, capx, rfl⟩ := slen_own hown
    by_cases hlt : k < n
    · have hd : decide (((2 * k : Nat) : Int) + 1 < (s.size : Int)) = true := by rw [hs]; simp; omega
      have x0 := hh (2 * k) (by omega)
      have x1 := hh (2 * k + 1) (by omega)
      have hi0 := index_sb s ((2 * k : Nat) : Int) (2 * k) rfl (by omega)
      have hi1 := index_sb s (((2 * k : Nat) : Int) + 1) (2 * k + 1) (by omega) (by omega)
      have hvb : hx (sb s (2 * k)) * 16 + hx (sb s (2 * k + 1)) = vb s k := rfl
      have cd1 := digit_any x0
      have cd2 := digit_any x1
      have b0 := hx_bd x0
      have b1 := hx_bd x1
      have hnx := hxl_succ s k
      replace hnx := hide hnx
      replace hvb := hide hvb
      clear x0 x1 hh
      generalize hx (sb s (2 * k)) = d1 at *
      generalize hx (sb s (2 * k + 1)) = d2 at *
      generalize sb s (2 * k) = c1 at *
      generalize sb s (2 * k + 1) = c2 at *
      generalize eI : ((2 * k : Nat) : Int) = I at *
      have hwr : I + 1 < 9223372036854775807 := by omega
      have m1 : IntKind.u8.wrap (d1 * 16) = d1 * 16 := wrap8 _ (by omega) (by omega)
      have m2 : IntKind.u8.wrap (d1 * 16 + d2) = d1 * 16 + d2 := wrap8 _ (by omega) (by omega)
      have hwI : IntKind.i64.wrap (I + 1) = I + 1 := wrapI _ (by omega) (by omega)
      go_wp2
      refine wp_region_noPanic ?_
      go_region_law
        ((first
          | (refine step_call 30 #[.int .u8 c1] (by rfl) (by kernel_rfl) (ex1 (cd1.at wr.drew)) ?_
             rintro v1 w1 ⟨rfl, hb1⟩)
          | (refine step_call 30 #[.int .u8 c2] (by rfl) (by kernel_rfl) (ex1 (cd2.at w1)) ?_
             rintro v2 w2 ⟨rfl, hb2⟩
             have hb12 : Below wr.heap.size wr w2 := Below.after (Below.after (below_drN (Below.refl _ _) 1) hb1) hb2
             have hs12 := hb12.size
             have hown2 := (own_keep hown hb12).alloc (.cells #[.int .u8 (d1 * 16 + d2)] 5)
             replace hw := Below.after hw hb12
             have hnew := new_cell w2 (d1 * 16 + d2)
             clear hb1 hb2)
          | (refine step_append_any _ (by rfl) _ _ _ (by rfl) w.heap.size 5 i0 (.int .u8 0) Tryd.underlying22 hi hz0 hz1 hz2 rfl _ k ((hxl s k).map (Value.int .u8)) (by rfl) hown2 (some ⟨w2.heap.size, 0, none⟩) 1 1 [.int .u8 (d1 * 16 + d2)] (by rfl) (by simp) (fun h => by cases h) (fun ad h => by cases h; exact hnew) (by simp [Value.oneCell']) (by unfold maxLen; omega) (by omega) (by rw [size_alloc1]; have := hw.size; omega) ?_
             intro v3 w3 hown3 hgrow
             have hw3 : Below w.heap.size w w3 := (hw.alloc hw.size _).grown hgrow (by rw [size_alloc1]; have := hw.size; omega) (fun q h => (hown2.lt q h).1))))
      all_goals
        refine NoPanic.normal ?_
        obtain ⟨ao3, cap3, rfl⟩ := slen_own hown3
        rw [hvb.out, show [Value.int .u8 (vb s k)] = [vb s k].map (Value.int .u8) from rfl, ← List.map_append, ← hnx.out] at hown3
        clear hgrow hown2 hw hnew hown
        go_wp2
        refine ⟨⟨k + 1, by omega, by simp; omega, hown3, hw3⟩, ?_⟩
        simp [intOf]; omega
    · obtain rfl : k = n := by omega
      have hd : decide (((2 * k : Nat) : Int) + 1 < (s.size : Int)) = false := by rw [hs]; simp; omega
      go_wp2
      go_ret
      exact ⟨_, rfl, hown, hw⟩

end Go.Proofs.YtmcokphkaekdaabDoor

namespace Go.Proofs.YtmcokphkaekdaabDoor
open Go Go.RowKit Go.Sort
attribute [local go_sem] setCell_drewN alloc_drewN

/-- A call as one step of a region that draws, guarded or not. -/
theorem step_callw {P : Program} {ops : Array Oper} {o : Oper} {a : Act} {w : World} {K : Act → World → Prop} {Q : Exit → Act → World → Prop} {E : Prop} (f : FuncId) (args : Array Value) {R : Value → World → Prop}
    (hw : Region.wanted o (yielded ops a.tmps) = true) (hx : (execOp a.eval o).run P w = .ok (.enter f args) w) (c : Calls P f args w fun e w' => ∃ v, e = .returned v ∧ R v w') (h : ∀ v w', R v w' → K (a.put o.dst v) w') :
    if Region.wanted o (yielded ops a.tmps) = true then Oper.wp P o a w K Q else E := by
  rw [if_pos hw]
  unfold Oper.wp
  rw [hx, Oper.upon_enter]
  exact c.mono fun e w' ⟨v, he, hb⟩ => by subst he; exact h v w' hb
theorem Bys.of_rowF {W : World} {g n : Nat} {l : List Int} {t : TypeId} {fr : Nat × Nat} (hg : W.heap[g]? = some (.cells (irow .u8 l) t fr)) (hl : l.length ≤ 9223372036854775807) (hz : ∀ z ∈ l, 0 ≤ z ∧ z < 256) (hn : l.length = n) {cap : Nat} : Bys W (.slice (some ⟨g, 0, none⟩) n cap) l := by
  subst hn
  refine ⟨_, cap, rfl, hl, fun j hj => ⟨g, 0, rfl, lt_of_row hg, ?_⟩, hz⟩
  rw [Nat.zero_add, cell_of_row _ _ _ _ _ _ hg, irow_get _ _ _ hj]
theorem hexT (s : ByteArray) (n : Nat) (O : List Int) (hs : s.size = 2 * n) (hn : n ≤ 1000) (hh : ∀ j, j < 2 * n → isHx (sb s j)) (e : hxl s n = O) (w : World) : Calls Tryd.prog 22 #[.string s] w fun e w' => ∃ v, e = .returned v ∧ w'.ownsRow w.heap.size 5 1 v n (O.map (Value.int .u8)) ∧ Below w.heap.size w w' := by
  rw [← e]; exact l_hex s n hs hn hh w
theorem hexS0 (O : List Int) (hO : O = [247, 188, 131, 244, 48, 83, 132, 36, 177, 50, 152, 230, 170, 111, 177, 67, 239, 77, 89, 161, 73, 70, 23, 89, 151, 71, 157, 188, 45, 26, 60, 216]) (w : World) : Calls Tryd.prog 22 #[.string (⟨#[102, 55, 98, 99, 56, 51, 102, 52, 51, 48, 53, 51, 56, 52, 50, 52, 98, 49, 51, 50, 57, 56, 101, 54, 97, 97, 54, 102, 98, 49, 52, 51, 101, 102, 52, 100, 53, 57, 97, 49, 52, 57, 52, 54, 49, 55, 53, 57, 57, 55, 52, 55, 57, 100, 98, 99, 50, 100, 49, 97, 51, 99, 100, 56]⟩ : ByteArray)] w fun e w' => ∃ v, e = .returned v ∧ w'.ownsRow w.heap.size 5 1 v 32 (O.map (Value.int .u8)) ∧ Below w.heap.size w w' :=
  hexT (⟨#[102, 55, 98, 99, 56, 51, 102, 52, 51, 48, 53, 51, 56, 52, 50, 52, 98, 49, 51, 50, 57, 56, 101, 54, 97, 97, 54, 102, 98, 49, 52, 51, 101, 102, 52, 100, 53, 57, 97, 49, 52, 57, 52, 54, 49, 55, 53, 57, 57, 55, 52, 55, 57, 100, 98, 99, 50, 100, 49, 97, 51, 99, 100, 56]⟩ : ByteArray) 32 O (by decide +kernel) (by decide) (by decide +kernel) (by rw [hO]; decide +kernel) w
theorem hexS1 (O : List Int) (hO : O = [182, 19, 103, 154, 8, 20, 217, 236, 119, 47, 149, 215, 120, 195, 95, 197, 255, 22, 151, 196, 147, 113, 86, 83, 198, 199, 18, 20, 66, 146, 197, 173]) (w : World) : Calls Tryd.prog 22 #[.string (⟨#[98, 54, 49, 51, 54, 55, 57, 97, 48, 56, 49, 52, 100, 57, 101, 99, 55, 55, 50, 102, 57, 53, 100, 55, 55, 56, 99, 51, 53, 102, 99, 53, 102, 102, 49, 54, 57, 55, 99, 52, 57, 51, 55, 49, 53, 54, 53, 51, 99, 54, 99, 55, 49, 50, 49, 52, 52, 50, 57, 50, 99, 53, 97, 100]⟩ : ByteArray)] w fun e w' => ∃ v, e = .returned v ∧ w'.ownsRow w.heap.size 5 1 v 32 (O.map (Value.int .u8)) ∧ Below w.heap.size w w' :=
  hexT (⟨#[98, 54, 49, 51, 54, 55, 57, 97, 48, 56, 49, 52, 100, 57, 101, 99, 55, 55, 50, 102, 57, 53, 100, 55, 55, 56, 99, 51, 53, 102, 99, 53, 102, 102, 49, 54, 57, 55, 99, 52, 57, 51, 55, 49, 53, 54, 53, 51, 99, 54, 99, 55, 49, 50, 49, 52, 52, 50, 57, 50, 99, 53, 97, 100]⟩ : ByteArray) 32 O (by decide +kernel) (by decide) (by decide +kernel) (by rw [hO]; decide +kernel) w
theorem hexS2 (O : List Int) (hO : O = [11, 11, 11, 11, 11, 11, 11, 11, 11, 11, 11, 11, 11, 11, 11, 11, 11, 11, 11, 11, 11, 11]) (w : World) : Calls Tryd.prog 22 #[.string (⟨#[48, 98, 48, 98, 48, 98, 48, 98, 48, 98, 48, 98, 48, 98, 48, 98, 48, 98, 48, 98, 48, 98, 48, 98, 48, 98, 48, 98, 48, 98, 48, 98, 48, 98, 48, 98, 48, 98, 48, 98, 48, 98, 48, 98]⟩ : ByteArray)] w fun e w' => ∃ v, e = .returned v ∧ w'.ownsRow w.heap.size 5 1 v 22 (O.map (Value.int .u8)) ∧ Below w.heap.size w w' :=
  hexT (⟨#[48, 98, 48, 98, 48, 98, 48, 98, 48, 98, 48, 98, 48, 98, 48, 98, 48, 98, 48, 98, 48, 98, 48, 98, 48, 98, 48, 98, 48, 98, 48, 98, 48, 98, 48, 98, 48, 98, 48, 98, 48, 98, 48, 98]⟩ : ByteArray) 22 O (by decide +kernel) (by decide) (by decide +kernel) (by rw [hO]; decide +kernel) w
theorem hexS3 (O : List Int) (hO : O = [0, 1, 2, 3, 4, 5, 6, 7, 8, 9, 10, 11, 12]) (w : World) : Calls Tryd.prog 22 #[.string (⟨#[48, 48, 48, 49, 48, 50, 48, 51, 48, 52, 48, 53, 48, 54, 48, 55, 48, 56, 48, 57, 48, 97, 48, 98, 48, 99]⟩ : ByteArray)] w fun e w' => ∃ v, e = .returned v ∧ w'.ownsRow w.heap.size 5 1 v 13 (O.map (Value.int .u8)) ∧ Below w.heap.size w w' :=
  hexT (⟨#[48, 48, 48, 49, 48, 50, 48, 51, 48, 52, 48, 53, 48, 54, 48, 55, 48, 56, 48, 57, 48, 97, 48, 98, 48, 99]⟩ : ByteArray) 13 O (by decide +kernel) (by decide) (by decide +kernel) (by rw [hO]; decide +kernel) w
theorem hexS4 (O : List Int) (hO : O = [240, 241, 242, 243, 244, 245, 246, 247, 248, 249]) (w : World) : Calls Tryd.prog 22 #[.string (⟨#[102, 48, 102, 49, 102, 50, 102, 51, 102, 52, 102, 53, 102, 54, 102, 55, 102, 56, 102, 57]⟩ : ByteArray)] w fun e w' => ∃ v, e = .returned v ∧ w'.ownsRow w.heap.size 5 1 v 10 (O.map (Value.int .u8)) ∧ Below w.heap.size w w' :=
  hexT (⟨#[102, 48, 102, 49, 102, 50, 102, 51, 102, 52, 102, 53, 102, 54, 102, 55, 102, 56, 102, 57]⟩ : ByteArray) 10 O (by decide +kernel) (by decide) (by decide +kernel) (by rw [hO]; decide +kernel) w
theorem hexS5 (O : List Int) (hO : O = [7, 119, 9, 54, 44, 46, 50, 223, 13, 220, 63, 13, 196, 123, 186, 99, 144, 182, 199, 59, 181, 15, 156, 49, 34, 236, 132, 74, 215, 194, 179, 229]) (w : World) : Calls Tryd.prog 22 #[.string (⟨#[48, 55, 55, 55, 48, 57, 51, 54, 50, 99, 50, 101, 51, 50, 100, 102, 48, 100, 100, 99, 51, 102, 48, 100, 99, 52, 55, 98, 98, 97, 54, 51, 57, 48, 98, 54, 99, 55, 51, 98, 98, 53, 48, 102, 57, 99, 51, 49, 50, 50, 101, 99, 56, 52, 52, 97, 100, 55, 99, 50, 98, 51, 101, 53]⟩ : ByteArray)] w fun e w' => ∃ v, e = .returned v ∧ w'.ownsRow w.heap.size 5 1 v 32 (O.map (Value.int .u8)) ∧ Below w.heap.size w w' :=
  hexT (⟨#[48, 55, 55, 55, 48, 57, 51, 54, 50, 99, 50, 101, 51, 50, 100, 102, 48, 100, 100, 99, 51, 102, 48, 100, 99, 52, 55, 98, 98, 97, 54, 51, 57, 48, 98, 54, 99, 55, 51, 98, 98, 53, 48, 102, 57, 99, 51, 49, 50, 50, 101, 99, 56, 52, 52, 97, 100, 55, 99, 50, 98, 51, 101, 53]⟩ : ByteArray) 32 O (by decide +kernel) (by decide) (by decide +kernel) (by rw [hO]; decide +kernel) w
theorem hexS6 (O : List Int) (hO : O = [60, 178, 95, 37, 250, 172, 213, 122, 144, 67, 79, 100, 208, 54, 47, 42, 45, 45, 10, 144, 207, 26, 90, 76, 93, 176, 45, 86, 236, 196, 197, 191, 52, 0, 114, 8, 213, 184, 135, 24, 88, 101]) (w : World) : Calls Tryd.prog 22 #[.string (⟨([51, 99, 98, 50, 53, 102, 50, 53, 102, 97, 97, 99, 100, 53, 55, 97, 57, 48, 52, 51, 52, 102, 54, 52, 100, 48, 51, 54, 50, 102, 50, 97, 50, 100, 50, 100, 48, 97, 57, 48, 99, 102].append [49, 97, 53, 97, 52, 99, 53, 100, 98, 48, 50, 100, 53, 54, 101, 99, 99, 52, 99, 53, 98, 102, 51, 52, 48, 48, 55, 50, 48, 56, 100, 53, 98, 56, 56, 55, 49, 56, 53, 56, 54, 53]).toArray⟩ : ByteArray)] w fun e w' => ∃ v, e = .returned v ∧ w'.ownsRow w.heap.size 5 1 v 42 (O.map (Value.int .u8)) ∧ Below w.heap.size w w' :=
  hexT (⟨([51, 99, 98, 50, 53, 102, 50, 53, 102, 97, 97, 99, 100, 53, 55, 97, 57, 48, 52, 51, 52, 102, 54, 52, 100, 48, 51, 54, 50, 102, 50, 97, 50, 100, 50, 100, 48, 97, 57, 48, 99, 102].append [49, 97, 53, 97, 52, 99, 53, 100, 98, 48, 50, 100, 53, 54, 101, 99, 99, 52, 99, 53, 98, 102, 51, 52, 48, 48, 55, 50, 48, 56, 100, 53, 98, 56, 56, 55, 49, 56, 53, 56, 54, 53]).toArray⟩ : ByteArray) 42 O (by decide +kernel) (by decide) (by decide +kernel) (by rw [hO]; decide +kernel) w
set_option maxRecDepth 100000 in
set_option maxHeartbeats 4000000 in
theorem vec_any (w : World) (hS : Sta w) (hK : Kon w) : Calls Tryd.prog 11 #[] w fun e w' => e = .returned (.bool true) ∧ Below w.heap.size w w' := by
  obtain ⟨Lk, eLk⟩ : ∃ X : List Int, X = [107, 101, 121] := ⟨_, rfl⟩
  obtain ⟨Lf, eLf⟩ : ∃ X : List Int, X = [84, 104, 101, 32, 113, 117, 105, 99, 107, 32, 98, 114, 111, 119, 110, 32, 102, 111, 120, 32, 106, 117, 109, 112, 115, 32, 111, 118, 101, 114, 32, 116, 104, 101, 32, 108, 97, 122, 121, 32, 100, 111, 103] := ⟨_, rfl⟩
  obtain ⟨E, eE⟩ : ∃ X : List Int, X = [] := ⟨_, rfl⟩
  obtain ⟨O1, eO1⟩ : ∃ X : List Int, X = [247, 188, 131, 244, 48, 83, 132, 36, 177, 50, 152, 230, 170, 111, 177, 67, 239, 77, 89, 161, 73, 70, 23, 89, 151, 71, 157, 188, 45, 26, 60, 216] := ⟨_, rfl⟩
  obtain ⟨O2, eO2⟩ : ∃ X : List Int, X = [182, 19, 103, 154, 8, 20, 217, 236, 119, 47, 149, 215, 120, 195, 95, 197, 255, 22, 151, 196, 147, 113, 86, 83, 198, 199, 18, 20, 66, 146, 197, 173] := ⟨_, rfl⟩
  obtain ⟨Ls, eLs⟩ : ∃ X : List Int, X = [11, 11, 11, 11, 11, 11, 11, 11, 11, 11, 11, 11, 11, 11, 11, 11, 11, 11, 11, 11, 11, 11] := ⟨_, rfl⟩
  obtain ⟨Lt, eLt⟩ : ∃ X : List Int, X = [0, 1, 2, 3, 4, 5, 6, 7, 8, 9, 10, 11, 12] := ⟨_, rfl⟩
  obtain ⟨Li, eLi⟩ : ∃ X : List Int, X = [240, 241, 242, 243, 244, 245, 246, 247, 248, 249] := ⟨_, rfl⟩
  obtain ⟨O6, eO6⟩ : ∃ X : List Int, X = [7, 119, 9, 54, 44, 46, 50, 223, 13, 220, 63, 13, 196, 123, 186, 99, 144, 182, 199, 59, 181, 15, 156, 49, 34, 236, 132, 74, 215, 194, 179, 229] := ⟨_, rfl⟩
  obtain ⟨O7, eO7⟩ : ∃ X : List Int, X = [60, 178, 95, 37, 250, 172, 213, 122, 144, 67, 79, 100, 208, 54, 47, 42, 45, 45, 10, 144, 207, 26, 90, 76, 93, 176, 45, 86, 236, 196, 197, 191, 52, 0, 114, 8, 213, 184, 135, 24, 88, 101] := ⟨_, rfl⟩
  have h1 : hm Lk Lf = O1 := by rw [eLk, eLf, eO1]; exact v_fox
  have h2 : hm E E = O2 := by rw [eE, eO2]; exact v_nil
  have h3 : hm Lt Ls = O6 := by rw [eLt, eLs, eO6]; exact v_ext
  have h4 : xpd O6 Li 42 = O7 := by rw [eO6, eLi, eO7]; exact v_okm
  have l1 : O1.length = 32 := by rw [← h1]; exact hm_len _ _
  have l2 : O2.length = 32 := by rw [← h2]; exact hm_len _ _
  have l6 : O6.length = 32 := by rw [← h3]; exact hm_len _ _
  have l7 : O7.length = 42 := by rw [← h4]; exact xpd_len _ _ _
  have z1 : ∀ z ∈ O1, 0 ≤ z ∧ z < 256 := by rw [← h1]; exact hm_bd _ _
  have z2 : ∀ z ∈ O2, 0 ≤ z ∧ z < 256 := by rw [← h2]; exact hm_bd _ _
  have z6 : ∀ z ∈ O6, 0 ≤ z ∧ z < 256 := by rw [← h3]; exact hm_bd _ _
  have z7 : ∀ z ∈ O7, 0 ≤ z ∧ z < 256 := by rw [← h4]; exact xpd_bd _ _ _
  have lk : Lk.length = 3 := by rw [eLk]; rfl
  have lf : Lf.length = 43 := by rw [eLf]; rfl
  have ls : Ls.length = 22 := by rw [eLs]; rfl
  have lt : Lt.length = 13 := by rw [eLt]; rfl
  have li : Li.length = 10 := by rw [eLi]; rfl
  have zk : ∀ z ∈ Lk, 0 ≤ z ∧ z < 256 := by rw [eLk]; decide
  have zf : ∀ z ∈ Lf, 0 ≤ z ∧ z < 256 := by rw [eLf]; decide
  have zs : ∀ z ∈ Ls, 0 ≤ z ∧ z < 256 := by rw [eLs]; decide
  have zt : ∀ z ∈ Lt, 0 ≤ z ∧ z < 256 := by rw [eLt]; decide
  have zi : ∀ z ∈ Li, 0 ≤ z ∧ z < 256 := by rw [eLi]; decide
  have cO1 := hexS0 O1 eO1
  have cO2 := hexS1 O2 eO2
  have cLs := hexS2 Ls eLs
  have cLt := hexS3 Lt eLt
  have cLi := hexS4 Li eLi
  have cO6 := hexS5 O6 eO6
  have cO7 := hexS6 O7 eO7
  have r1 : ((w.alloc (.cells #[.int .u8 107, .int .u8 101, .int .u8 121] 5 (3, 4))).alloc (.cells #[.int .u8 84, .int .u8 104, .int .u8 101, .int .u8 32, .int .u8 113, .int .u8 117, .int .u8 105, .int .u8 99, .int .u8 107, .int .u8 32, .int .u8 98, .int .u8 114, .int .u8 111, .int .u8 119, .int .u8 110, .int .u8 32, .int .u8 102, .int .u8 111, .int .u8 120, .int .u8 32, .int .u8 106, .int .u8 117, .int .u8 109, .int .u8 112, .int .u8 115, .int .u8 32, .int .u8 111, .int .u8 118, .int .u8 101, .int .u8 114, .int .u8 32, .int .u8 116, .int .u8 104, .int .u8 101, .int .u8 32, .int .u8 108, .int .u8 97, .int .u8 122, .int .u8 121, .int .u8 32, .int .u8 100, .int .u8 111, .int .u8 103] 5 (43, 44))).heap[w.heap.size]? = some (.cells (irow .u8 Lk) 5 (3, 4)) := by rw [eLk]; exact hp2_0 w _ _
  have r2 : ((w.alloc (.cells #[.int .u8 107, .int .u8 101, .int .u8 121] 5 (3, 4))).alloc (.cells #[.int .u8 84, .int .u8 104, .int .u8 101, .int .u8 32, .int .u8 113, .int .u8 117, .int .u8 105, .int .u8 99, .int .u8 107, .int .u8 32, .int .u8 98, .int .u8 114, .int .u8 111, .int .u8 119, .int .u8 110, .int .u8 32, .int .u8 102, .int .u8 111, .int .u8 120, .int .u8 32, .int .u8 106, .int .u8 117, .int .u8 109, .int .u8 112, .int .u8 115, .int .u8 32, .int .u8 111, .int .u8 118, .int .u8 101, .int .u8 114, .int .u8 32, .int .u8 116, .int .u8 104, .int .u8 101, .int .u8 32, .int .u8 108, .int .u8 97, .int .u8 122, .int .u8 121, .int .u8 32, .int .u8 100, .int .u8 111, .int .u8 103] 5 (43, 44))).heap[w.heap.size + 1]? = some (.cells (irow .u8 Lf) 5 (43, 44)) := by rw [eLf]; exact hp2_1 w _ _
  have hw : Below w.heap.size w ((w.alloc (.cells #[.int .u8 107, .int .u8 101, .int .u8 121] 5 (3, 4))).alloc (.cells #[.int .u8 84, .int .u8 104, .int .u8 101, .int .u8 32, .int .u8 113, .int .u8 117, .int .u8 105, .int .u8 99, .int .u8 107, .int .u8 32, .int .u8 98, .int .u8 114, .int .u8 111, .int .u8 119, .int .u8 110, .int .u8 32, .int .u8 102, .int .u8 111, .int .u8 120, .int .u8 32, .int .u8 106, .int .u8 117, .int .u8 109, .int .u8 112, .int .u8 115, .int .u8 32, .int .u8 111, .int .u8 118, .int .u8 101, .int .u8 114, .int .u8 32, .int .u8 116, .int .u8 104, .int .u8 101, .int .u8 32, .int .u8 108, .int .u8 97, .int .u8 122, .int .u8 121, .int .u8 32, .int .u8 100, .int .u8 111, .int .u8 103] 5 (43, 44))) := bel2 w _ _
  have hcv1 : (convert 22 22 (.slice (some ⟨w.heap.size, 0, none⟩) 3 3)).run Tryd.prog (w.alloc (.cells #[.int .u8 107, .int .u8 101, .int .u8 121] 5)) = .ok (.slice (some ⟨w.heap.size, 0, none⟩) 3 3) (w.alloc (.cells #[.int .u8 107, .int .u8 101, .int .u8 121] 5 (3, 4))) := Go.Lib.run_convert_bytes_const w 22 5 #[.int .u8 107, .int .u8 101, .int .u8 121] 3 3 Tryd.underlying22 Tryd.underlying5
  have hcv2 : (convert 22 22 (.slice (some ⟨w.heap.size + 1, 0, none⟩) 43 43)).run Tryd.prog ((w.alloc (.cells #[.int .u8 107, .int .u8 101, .int .u8 121] 5 (3, 4))).alloc (.cells #[.int .u8 84, .int .u8 104, .int .u8 101, .int .u8 32, .int .u8 113, .int .u8 117, .int .u8 105, .int .u8 99, .int .u8 107, .int .u8 32, .int .u8 98, .int .u8 114, .int .u8 111, .int .u8 119, .int .u8 110, .int .u8 32, .int .u8 102, .int .u8 111, .int .u8 120, .int .u8 32, .int .u8 106, .int .u8 117, .int .u8 109, .int .u8 112, .int .u8 115, .int .u8 32, .int .u8 111, .int .u8 118, .int .u8 101, .int .u8 114, .int .u8 32, .int .u8 116, .int .u8 104, .int .u8 101, .int .u8 32, .int .u8 108, .int .u8 97, .int .u8 122, .int .u8 121, .int .u8 32, .int .u8 100, .int .u8 111, .int .u8 103] 5)) = .ok (.slice (some ⟨w.heap.size + 1, 0, none⟩) 43 43) ((w.alloc (.cells #[.int .u8 107, .int .u8 101, .int .u8 121] 5 (3, 4))).alloc (.cells #[.int .u8 84, .int .u8 104, .int .u8 101, .int .u8 32, .int .u8 113, .int .u8 117, .int .u8 105, .int .u8 99, .int .u8 107, .int .u8 32, .int .u8 98, .int .u8 114, .int .u8 111, .int .u8 119, .int .u8 110, .int .u8 32, .int .u8 102, .int .u8 111, .int .u8 120, .int .u8 32, .int .u8 106, .int .u8 117, .int .u8 109, .int .u8 112, .int .u8 115, .int .u8 32, .int .u8 111, .int .u8 118, .int .u8 101, .int .u8 114, .int .u8 32, .int .u8 116, .int .u8 104, .int .u8 101, .int .u8 32, .int .u8 108, .int .u8 97, .int .u8 122, .int .u8 121, .int .u8 32, .int .u8 100, .int .u8 111, .int .u8 103] 5 (43, 44))) := by
    have h := Go.Lib.run_convert_bytes_const (P := Tryd.prog) (w.alloc (.cells #[.int .u8 107, .int .u8 101, .int .u8 121] 5 (3, 4))) 22 5 #[.int .u8 84, .int .u8 104, .int .u8 101, .int .u8 32, .int .u8 113, .int .u8 117, .int .u8 105, .int .u8 99, .int .u8 107, .int .u8 32, .int .u8 98, .int .u8 114, .int .u8 111, .int .u8 119, .int .u8 110, .int .u8 32, .int .u8 102, .int .u8 111, .int .u8 120, .int .u8 32, .int .u8 106, .int .u8 117, .int .u8 109, .int .u8 112, .int .u8 115, .int .u8 32, .int .u8 111, .int .u8 118, .int .u8 101, .int .u8 114, .int .u8 32, .int .u8 116, .int .u8 104, .int .u8 101, .int .u8 32, .int .u8 108, .int .u8 97, .int .u8 122, .int .u8 121, .int .u8 32, .int .u8 100, .int .u8 111, .int .u8 103] 43 43 Tryd.underlying22 Tryd.underlying5
    rw [size_alloc1] at h
    exact h
  replace eE := hide eE
  clear eLk eLf eO1 eO2 eLs eLt eLi eO6 eO7
  have f0 := hS.below hw
  have f4 := hK.below hw
  go_enter Tryd.func11, Tryd.ntmps11
  go_wp2_with (fail)
  clear hcv1 hcv2
  generalize ((w.alloc (.cells #[.int .u8 107, .int .u8 101, .int .u8 121] 5 (3, 4))).alloc (.cells #[.int .u8 84, .int .u8 104, .int .u8 101, .int .u8 32, .int .u8 113, .int .u8 117, .int .u8 105, .int .u8 99, .int .u8 107, .int .u8 32, .int .u8 98, .int .u8 114, .int .u8 111, .int .u8 119, .int .u8 110, .int .u8 32, .int .u8 102, .int .u8 111, .int .u8 120, .int .u8 32, .int .u8 106, .int .u8 117, .int .u8 109, .int .u8 112, .int .u8 115, .int .u8 32, .int .u8 111, .int .u8 118, .int .u8 101, .int .u8 114, .int .u8 32, .int .u8 116, .int .u8 104, .int .u8 101, .int .u8 32, .int .u8 108, .int .u8 97, .int .u8 122, .int .u8 121, .int .u8 32, .int .u8 100, .int .u8 111, .int .u8 103] 5 (43, 44))) = w0 at *
  have cA := a_macSum Lk Lf w0 (.slice (some ⟨w.heap.size, 0, none⟩) 3 3) (.slice (some ⟨w.heap.size + 1, 0, none⟩) 43 43) f0 f4 (Bys.of_rowF r1 (by omega) zk lk) (fun a l c h => by cases h; exact Nat.le_refl _) (by omega) (Bys.of_rowF r2 (by omega) zf lf) (fun a l c h => by cases h; exact Nat.le_refl _) (by omega)
  rw [h1] at cA
  refine cA.mono ?_
  rintro e_ w1 ⟨rfl, hb⟩
  replace f0 := f0.below hb
  replace f4 := f4.below hb
  replace hw := Below.after hw hb
  clear hb cA r1 r2
  have rA := hp1_0 w1 (.cells (irow .u8 O1) 25)
  have hba : Below w1.heap.size w1 (w1.alloc (.cells (irow .u8 O1) 25)) := (Below.refl _ _).alloc (Nat.le_refl _) _
  replace f0 := f0.below hba
  replace f4 := f4.below hba
  replace hw := Below.after hw hba
  clear hba
  go_wp2_with (first | (refine wpList_alloc rfl 25 rfl (irow .u8 (zr 32)) zkey ?_) | (refine wpList_store_row rfl 25 _ _ rfl (w1.heap.size) (irow .u8 O1) rfl rfl 25 _ (hp1_0 w1 _) (infok8 _ l1) (fit32 _ _ (zr_len 32) l1) (irow_one _ _) ?_; rw [setRow_alloc_new _ _ _ _ _ _ rfl]) | fail)
  generalize w1.alloc (.cells (irow .u8 O1) 25) = w2 at *
  generalize w1.heap.size = grA at *
  have hnE : Bys w2 (.slice none 0 0) E := by rw [eE.out]; exact bys_nil _
  have lE : E.length ≤ 4611686018427380000 := by rw [eE.out]; simp
  have cB := a_macSum E E w2 (.slice none 0 0) (.slice none 0 0) f0 f4 hnE (fun a l c h => by cases h; exact Nat.le_refl _) lE hnE (fun a l c h => by cases h; exact Nat.le_refl _) lE
  rw [h2] at cB
  go_wp2_with (fail)
  refine cB.mono ?_
  rintro e_ w3 ⟨rfl, hb⟩
  replace rA := keep hb rA
  replace f0 := f0.below hb
  replace f4 := f4.below hb
  replace hw := Below.after hw hb
  clear hb cB hnE
  have rB := hp1_0 w3 (.cells (irow .u8 O2) 25)
  have hba : Below w3.heap.size w3 (w3.alloc (.cells (irow .u8 O2) 25)) := (Below.refl _ _).alloc (Nat.le_refl _) _
  replace rA := keep hba rA
  replace f0 := f0.below hba
  replace f4 := f4.below hba
  replace hw := Below.after hw hba
  clear hba
  go_wp2_with (first | (refine wpList_alloc rfl 25 rfl (irow .u8 (zr 32)) zkey ?_) | (refine wpList_store_row rfl 25 _ _ rfl (w3.heap.size) (irow .u8 O2) rfl rfl 25 _ (hp1_0 w3 _) (infok8 _ l2) (fit32 _ _ (zr_len 32) l2) (irow_one _ _) ?_; rw [setRow_alloc_new _ _ _ _ _ _ rfl]) | fail)
  generalize w3.alloc (.cells (irow .u8 O2) 25) = w4 at *
  generalize w3.heap.size = grB at *
  have sk := slice_k
  have qA := fun W (hW : Below w4.heap.size w4 W) => Bys.of_rowN (keep hW rA) (by omega) z1 l1 (cap := 32)
  have qB := fun W (hW : Below w4.heap.size w4 W) => Bys.of_rowN (keep hW rB) (by omega) z2 l2 (cap := 32)
  have hbd : Below w4.heap.size w4 w4.drew := below_drN (Below.refl _ _) 1
  replace qA := hide qA
  replace qB := hide qB
  go_wp2_with (fail)
  refine wp_region_noPanic ?_
  go_region_law
    ((first
      | (refine step_callw 22 _ (by kernel_rfl) (by kernel_rfl) (cO1 w4.drew) ?_
         rintro v5 w5 ⟨own5, hb5⟩
         replace hb5 := Below.after hbd hb5
         have p5 := Bys.of_own own5 (by omega) z1)
      | (refine step_callw 18 _ (by kernel_rfl) (by kernel_rfl) (ex1 (l_same_eq O1 w5 _ _ (qA.out w5 hb5) p5)) ?_
         rintro v6 w6 ⟨rfl, hb6⟩
         replace hb6 := Below.after hb5 hb6)
      | (refine step_callw 22 _ (by kernel_rfl) (by kernel_rfl) (cO2 w6) ?_
         rintro v7 w7 ⟨own7, hb7⟩
         replace hb7 := Below.after hb6 hb7
         have p7 := Bys.of_own own7 (by omega) z2)
      | (refine step_callw 18 _ (by kernel_rfl) (by kernel_rfl) (ex1 (l_same_eq O2 w7 _ _ (qB.out w7 hb7) p7)) ?_
         rintro v8 w8 ⟨rfl, hb8⟩
         replace hb8 := Below.after hb7 hb8)))
  refine NoPanic.normal ?_
  replace f0 := f0.below hb8
  replace f4 := f4.below hb8
  replace hw := Below.after hw hb8
  clear hb5 hb6 hb7 hb8 own5 own7 p5 p7 qA qB rA rB hbd
  go_wp2_with (fail)
  refine (cLs w8).mono ?_
  rintro e_ w9 ⟨vs, rfl, oS, hb⟩
  replace f0 := f0.below hb
  replace f4 := f4.below hb
  replace hw := Below.after hw hb
  clear hb
  go_wp2_with (fail)
  refine (cLt w9).mono ?_
  rintro e_ wa ⟨vt, rfl, oT, hb⟩
  replace oS := own_keep oS hb
  replace f0 := f0.below hb
  replace f4 := f4.below hb
  replace hw := Below.after hw hb
  clear hb
  have cE := a_extract Lt Ls wa vt vs f0 f4 (Bys.of_own oT (by omega) zt) (own_cap oT) (by omega) (Bys.of_own oS (by omega) zs) (own_cap oS) (by omega)
  rw [h3] at cE
  go_wp2_with (fail)
  refine cE.mono ?_
  rintro e_ wb ⟨rfl, hb⟩
  replace oS := own_keep oS hb
  replace oT := own_keep oT hb
  replace f0 := f0.below hb
  replace f4 := f4.below hb
  replace hw := Below.after hw hb
  clear hb cE
  have rE := hp1_0 wb (.cells (irow .u8 O6) 25)
  have hba : Below wb.heap.size wb (wb.alloc (.cells (irow .u8 O6) 25)) := (Below.refl _ _).alloc (Nat.le_refl _) _
  replace oS := own_keep oS hba
  replace oT := own_keep oT hba
  replace f0 := f0.below hba
  replace f4 := f4.below hba
  replace hw := Below.after hw hba
  clear hba
  go_wp2_with (first | (refine wpList_alloc rfl 25 rfl (irow .u8 (zr 32)) zkey ?_) | (refine wpList_store_row rfl 25 _ _ rfl (wb.heap.size) (irow .u8 O6) rfl rfl 25 _ (hp1_0 wb _) (infok8 _ l6) (fit32 _ _ (zr_len 32) l6) (irow_one _ _) ?_; rw [setRow_alloc_new _ _ _ _ _ _ rfl]) | fail)
  generalize wb.alloc (.cells (irow .u8 O6) 25) = wc at *
  generalize wb.heap.size = grE at *
  go_wp2_with (fail)
  refine (cLi wc).mono ?_
  rintro e_ wd ⟨vi, rfl, oI, hb⟩
  replace rE := keep hb rE
  replace oS := own_keep oS hb
  replace oT := own_keep oT hb
  replace f0 := f0.below hb
  replace f4 := f4.below hb
  replace hw := Below.after hw hb
  clear hb
  have cD := ad_yes Lt Ls Li 42 wd vt vs vi f0 f4 (Bys.of_own oT (by omega) zt) (own_cap oT) (by omega) (Bys.of_own oS (by omega) zs) (own_cap oS) (by omega) (Bys.of_own oI (by omega) zi) (own_cap oI) (by omega) (by decide)
  rw [h3, h4] at cD
  go_wp2_with (fail)
  refine cD.mono ?_
  rintro e_ we ⟨v, rfl, gd, rfl, lgd, rD, hb⟩
  replace rE := keep hb rE
  replace f0 := f0.below hb
  replace f4 := f4.below hb
  replace hw := Below.after hw hb
  clear hb cD oS oT oI
  have qE := fun W (hW : Below we.heap.size we W) => Bys.of_rowN (keep hW rE) (by omega) z6 l6 (cap := 32)
  have qD := fun W (hW : Below we.heap.size we W) => Bys.of_rowN (keep hW rD) (by omega) z7 l7 (cap := 42)
  have hbd : Below we.heap.size we we.drew := below_drN (Below.refl _ _) 1
  replace qE := hide qE
  replace qD := hide qD
  go_wp2_with (fail)
  generalize hvS : Value.string (⟨([51, 99, 98, 50, 53, 102, 50, 53, 102, 97, 97, 99, 100, 53, 55, 97, 57, 48, 52, 51, 52, 102, 54, 52, 100, 48, 51, 54, 50, 102, 50, 97, 50, 100, 50, 100, 48, 97, 57, 48, 99, 102].append [49, 97, 53, 97, 52, 99, 53, 100, 98, 48, 50, 100, 53, 54, 101, 99, 99, 52, 99, 53, 98, 102, 51, 52, 48, 48, 55, 50, 48, 56, 100, 53, 98, 56, 56, 55, 49, 56, 53, 56, 54, 53]).toArray⟩ : ByteArray) = vS at *
  replace hvS := hide hvS
  refine wp_region_noPanic ?_
  refine wp_region_any (by kernel_rfl) ?_
  change wpAny _ _ _ _ _ _ _ (World.drew _)
  refine wpAny_take (i := 0) (v := ?v1) rfl (by kernel_rfl) (by kernel_rfl) (by kernel_rfl) (fun _ _ _ h => h) (Or.inl ⟨by rfl, ?y1⟩) ?r1
  case y1 =>
    intro w_
    go_simp
    try with_reducible rfl
  simp only [Act.put, List.getElem_toArray, List.getElem_cons_zero, List.setIfInBounds_toArray, List.set_cons_succ, List.set_cons_zero]
  refine wpAny_ready (rs := [1]) (fuel := 11) (by kernel_rfl) (by simp) (AllReady.cons rfl (fun K' hK => ?_) AllReady.nil)
  rw [if_pos (by kernel_rfl)]
  simp only [List.getElem_toArray, List.getElem_cons_succ, List.getElem_cons_zero]
  refine wp_call_ex (f := 22) (by kernel_rfl) (cO6 we.drew) (fun v5 w5 hX => hK _ _ ?_)
  simp only [Act.put, List.setIfInBounds_toArray, List.set_cons_succ, List.set_cons_zero]
  clear hK
  obtain ⟨own5, hb5⟩ := hX
  replace hb5 := Below.after hbd hb5
  have p5 := Bys.of_own own5 (by omega) z6
  refine wpAny_ready (rs := [2]) (fuel := 10) (by kernel_rfl) (by simp) (AllReady.cons rfl (fun K' hK => ?_) AllReady.nil)
  rw [if_pos (by kernel_rfl)]
  simp only [List.getElem_toArray, List.getElem_cons_succ, List.getElem_cons_zero]
  refine wp_call_ex (f := 18) (by kernel_rfl) (ex1 (l_same_eq O6 w5 _ _ (qE.out w5 hb5) p5)) (fun v6 w6 hX => hK _ _ ?_)
  simp only [Act.put, List.setIfInBounds_toArray, List.set_cons_succ, List.set_cons_zero]
  clear hK
  obtain ⟨rfl, hb6⟩ := hX
  replace hb6 := Below.after hb5 hb6
  refine wpAny_take (i := 3) (v := ?v2) rfl (by kernel_rfl) (by kernel_rfl) (by kernel_rfl) (fun _ _ _ h => h) (Or.inl ⟨by rfl, ?y2⟩) ?r2
  case y2 =>
    intro w_
    go_simp
    try with_reducible rfl
  simp only [Act.put, List.getElem_toArray, List.getElem_cons_succ, List.getElem_cons_zero, List.setIfInBounds_toArray, List.set_cons_succ, List.set_cons_zero]
  refine wpAny_take (i := 4) (v := ?v3) rfl (by kernel_rfl) (by kernel_rfl) (by kernel_rfl) (fun _ _ _ h => h) (Or.inl ⟨by rfl, ?y3⟩) ?r3
  case y3 =>
    intro w_
    go_simp
    try with_reducible rfl
  simp only [Act.put, List.getElem_toArray, List.getElem_cons_succ, List.getElem_cons_zero, List.setIfInBounds_toArray, List.set_cons_succ, List.set_cons_zero]
  refine wpAny_take (i := 5) (v := ?v4) rfl (by kernel_rfl) (by kernel_rfl) (by kernel_rfl) (fun _ _ _ h => h) (Or.inl ⟨by rfl, ?y4⟩) ?r4
  case y4 =>
    intro w_
    go_simp
    try with_reducible rfl
  simp only [Act.put, List.getElem_toArray, List.getElem_cons_succ, List.getElem_cons_zero, List.setIfInBounds_toArray, List.set_cons_succ, List.set_cons_zero]
  refine wpAny_take (i := 6) (v := ?v5) rfl (by kernel_rfl) (by kernel_rfl) (by kernel_rfl) (fun _ _ _ h => h) (Or.inl ⟨by rfl, ?y5⟩) ?r5
  case y5 =>
    intro w_
    go_simp
    try with_reducible rfl
  simp only [Act.put, List.getElem_toArray, List.getElem_cons_succ, List.getElem_cons_zero, List.setIfInBounds_toArray, List.set_cons_succ, List.set_cons_zero]
  refine wpAny_take (i := 7) (v := ?v6) rfl (by kernel_rfl) (by kernel_rfl) (by kernel_rfl) (fun _ _ _ h => h) (Or.inl ⟨by rfl, ?y6⟩) ?r6
  case y6 =>
    intro w_
    go_simp
    try with_reducible rfl
  simp only [Act.put, List.getElem_toArray, List.getElem_cons_succ, List.getElem_cons_zero, List.setIfInBounds_toArray, List.set_cons_succ, List.set_cons_zero]
  refine wpAny_take (i := 8) (v := ?v7) rfl (by kernel_rfl) (by kernel_rfl) (by kernel_rfl) (fun _ _ _ h => h) (Or.inl ⟨by rfl, ?y7⟩) ?r7
  case y7 =>
    intro w_
    go_simp
    try with_reducible rfl
  simp only [Act.put, List.getElem_toArray, List.getElem_cons_succ, List.getElem_cons_zero, List.setIfInBounds_toArray, List.set_cons_succ, List.set_cons_zero]
  refine wpAny_ready (rs := [9]) (fuel := 3) (by kernel_rfl) (by simp) (AllReady.cons rfl (fun K' hK => ?_) AllReady.nil)
  rw [if_pos (by kernel_rfl)]
  simp only [List.getElem_toArray, List.getElem_cons_succ, List.getElem_cons_zero]
  refine wp_call_ex (f := 22) (by kernel_rfl) (cO7 w6) (fun v7 w7 hX => hK _ _ ?_)
  simp only [Act.put, List.setIfInBounds_toArray, List.set_cons_succ, List.set_cons_zero]
  clear hK
  obtain ⟨own7, hb7⟩ := hX
  replace hb7 := Below.after hb6 hb7
  have p7 := Bys.of_own own7 (by omega) z7
  refine wpAny_ready (rs := [10]) (fuel := 2) (by kernel_rfl) (by simp) (AllReady.cons rfl (fun K' hK => ?_) AllReady.nil)
  rw [if_pos (by kernel_rfl)]
  simp only [List.getElem_toArray, List.getElem_cons_succ, List.getElem_cons_zero]
  refine wp_call_ex (f := 18) (by kernel_rfl) (ex1 (l_same_eq O7 w7 _ _ (qD.out w7 hb7) p7)) (fun v8 w8 hX => hK _ _ ?_)
  simp only [Act.put, List.setIfInBounds_toArray, List.set_cons_succ, List.set_cons_zero]
  clear hK
  obtain ⟨rfl, hb8⟩ := hX
  replace hb8 := Below.after hb7 hb8
  refine wpAny_take (i := 11) (v := ?v8) rfl (by kernel_rfl) (by kernel_rfl) (by kernel_rfl) (fun _ _ _ h => h) (Or.inl ⟨by rfl, ?y8⟩) ?r8
  case y8 =>
    intro w_
    go_simp
    try with_reducible rfl
  simp only [Act.put, List.getElem_toArray, List.getElem_cons_succ, List.getElem_cons_zero, List.setIfInBounds_toArray, List.set_cons_succ, List.set_cons_zero]
  refine wpAny_take (i := 12) (v := ?v9) rfl (by kernel_rfl) (by kernel_rfl) (by kernel_rfl) (fun _ _ _ h => h) (Or.inl ⟨by rfl, ?y9⟩) ?r9
  case y9 =>
    intro w_
    go_simp
    try with_reducible rfl
  simp only [Act.put, List.getElem_toArray, List.getElem_cons_succ, List.getElem_cons_zero, List.setIfInBounds_toArray, List.set_cons_zero]
  refine wpAny_done (by kernel_rfl) ?_ _
  refine NoPanic.normal ?_
  replace hw := Below.after hw hb8
  clear hb5 hb6 hb7 hb8 own5 own7 p5 p7 qE qD rE rD hbd
  go_wp2
  go_ret
  exact ⟨rfl, hw⟩

end Go.Proofs.YtmcokphkaekdaabDoor

namespace Go.Proofs.YtmcokphkaekdaabDoor
open Go Go.ChangeShapes Go.WideShapes Go.ChangeAt Go.RowKit Go.Deep

/-! Pieces and bools, out of the data. -/
theorem cellsB8 : Tryd.prog.cellsOf 5 = 1 := by kernel_rfl
theorem cellsSl : Tryd.prog.cellsOf 22 = 1 := by kernel_rfl
theorem cellsBo : Tryd.prog.cellsOf 4 = 1 := by kernel_rfl
theorem blk_of_cell {w : World} {b o : Nat} {v : Value} (h : w.cell? ⟨b, o, none⟩ = some v) : b < w.heap.size := by
  rcases Nat.lt_or_ge b w.heap.size with q | q
  · exact q
  · simp [World.cell?, Array.getElem?_eq_none q] at h
/-- One list of bytes. -/
theorem bytes_of_trod {H : Type} {enc : TypeId × Value → H} {W : World} {m : Nat} {v : Value} {x : DataW H × List MemPlace} (hf : DataW.trod enc Tryd.prog W 0 (fun _ => true) true m 22 [v] = some x) :
    ∃ bs : List Int, ∃ u uc, v = .slice u bs.length uc ∧ Bys W (.slice u bs.length uc) bs ∧ (u = none → uc = 0) ∧ bs.length ≤ uc ∧ bs.length ≤ Rows.uptoBulk x.1 := by
  rcases open_ints Tryd.underlying22 Tryd.underlying5 cellsB8 hf with ⟨hcs, hx⟩ | ⟨a, len, cap, zs, hcs, _, hl, hm, hz, hx, hcell, hwz⟩
  · injection hcs with hv _
    subst hv
    exact ⟨[], none, 0, rfl, ⟨none, 0, rfl, by decide, fun j hj => by simp at hj, by simp⟩, fun _ => rfl, Nat.le_refl _, Nat.zero_le _⟩
  · injection hcs with hv _
    subst hv
    subst hx
    simp only [if_true] at hz
    have hb := bulk_slice (lits (H := H) .u8 (zs.take len)) (lits .u8 (zs.drop len))
    simp only [lits, List.length_map] at hb
    have hlen : (zs.take len).length = len := by rw [List.length_take]; omega
    simp only [maxLen] at hm
    refine ⟨zs.take len, some a, cap, by rw [hlen], ?_, (fun h => by cases h), by omega, by simp only [lits]; omega⟩
    refine ⟨some a, cap, rfl, by rw [hlen]; omega, fun j hj => ?_, fun z h => u8_of_wf (hwz z (List.mem_of_mem_take h))⟩
    rw [hlen] at hj
    have hc := hcell j (by omega)
    obtain ⟨bb, off, spot⟩ := a
    have hspot : spot = none := by simpa [Addr.add] using World.cell?_spot (hcell 0 (by omega))
    subst hspot
    rw [addr_add] at hc
    refine ⟨bb, off, rfl, blk_of_cell hc, ?_⟩
    rw [hc, List.getD_eq_getElem?_getD, List.getD_eq_getElem?_getD, List.getElem?_take_of_lt hj]
theorem flat_bulk {H : Type} (PS : Nat → List Int) (D : Nat → DataW H) : ∀ l : List Nat, (∀ i ∈ l, (PS i).length ≤ Rows.uptoBulk (D i)) → ((l.map PS).flatten).length ≤ Rows.uptoBulkAll (l.map D)
  | [], _ => by simp [Rows.uptoBulkAll]
  | i :: r, h => by
    have h1 := h i (by simp)
    have h2 := flat_bulk PS D r (fun j hj => h j (by simp [hj]))
    simp only [List.map_cons, List.flatten_cons, List.length_append, Rows.uptoBulkAll]
    omega
theorem range_getD {α : Type} (f : Nat → α) (d : α) (n i : Nat) (h : i < n) : ((List.range n).map f).getD i d = f i := by
  rw [List.getD_eq_getElem?_getD, List.getElem?_map, List.getElem?_range h]
  rfl
/-- Pieces of bytes, as they lie in a world, with their room. -/
def PcsC (W : World) (v : Value) (ps : List (List Int)) : Prop := ∃ ao cap, v = .slice ao ps.length cap ∧ ps.length ≤ 9223372036854775807 ∧ ∀ i, i < ps.length → ∃ b off u uc, ao = some ⟨b, off, none⟩ ∧ b < W.heap.size ∧ W.cell? ⟨b, off + i, none⟩ = some (.slice u (ps.getD i []).length uc) ∧ Bys W (.slice u (ps.getD i []).length uc) (ps.getD i []) ∧ (u = none → uc = 0) ∧ (ps.getD i []).length ≤ uc
theorem pcsC_of_trod {H : Type} {enc : TypeId × Value → H} {W : World} {m : Nat} {v : Value} {x : DataW H × List MemPlace} (hf : DataW.trod enc Tryd.prog W 0 (fun _ => true) true m 31 [v] = some x) :
    ∃ ps : List (List Int), PcsC W v ps ∧ ps.flatten.length ≤ Rows.uptoBulk x.1 := by
  rcases open_slice1 Tryd.underlying31 cellsSl hf with ⟨hcs, hx⟩ | ⟨a, len, cap, m, n, V, D, Pl, hcs, _, hl, hm, hmm, hx, hel⟩
  · injection hcs with hv _
    subst hv
    exact ⟨[], ⟨none, 0, rfl, by decide, fun i hi => by simp at hi⟩, Nat.zero_le _⟩
  · injection hcs with hv _
    subst hv
    subst hx
    simp only [if_true] at hmm
    subst hmm
    obtain ⟨PS, hPS⟩ := choose_lt (α := List Int) (p := fun i bs => ∃ u uc, V i = .slice u bs.length uc ∧ Bys W (.slice u bs.length uc) bs ∧ (u = none → uc = 0) ∧ bs.length ≤ uc ∧ bs.length ≤ Rows.uptoBulk (D i)) (n := len) (fun i hi => by
      obtain ⟨bs, u, uc, h1, h2, h3, h4, h5⟩ := bytes_of_trod (hel i (by omega)).2
      exact ⟨bs, u, uc, h1, h2, h3, h4, h5⟩)
    have hb := bulk_elems ((List.range len).map D) ((List.range (m - len)).map fun j => D (len + j))
    have hfb := flat_bulk PS D (List.range len) (fun i hi => by
      obtain ⟨_, _, _, _, _, _, h⟩ := hPS i (List.mem_range.1 hi)
      exact h)
    simp only [maxLen] at hm
    refine ⟨(List.range len).map PS, ⟨some a, _, by simp; rfl, by simp; omega, fun i hi => ?_⟩, by show _ ≤ Rows.uptoBulk (DataW.slice _ _); omega⟩
    have hi' : i < len := by simpa using hi
    obtain ⟨u, uc, h1, h2, h3, h4, _⟩ := hPS i hi'
    have hc := (hel i (by omega)).1
    obtain ⟨bb, off, spot⟩ := a
    have hspot : spot = none := by simpa [Addr.add] using World.cell?_spot (hel 0 (by omega)).1
    subst hspot
    rw [addr_add, h1] at hc
    rw [range_getD PS [] len i hi']
    exact ⟨bb, off, u, uc, rfl, blk_of_cell hc, hc, h2, h3, h4⟩
end Go.Proofs.YtmcokphkaekdaabDoor

namespace Go.Proofs.YtmcokphkaekdaabDoor
open Go Go.RowKit Go.Sort
attribute [local go_sem] setCell_drewN alloc_drewN

theorem a_mwrite (key bs b : List Int) (g : Nat) (w : World) (v : Value) (rM : w.heap[g]? = some (.cells (mst key bs) 43 (0, 0))) (hB : Bys w v b) (hne : ∀ a l c, v = .slice (some a) l c → 0 < l → a.block ≠ g) (hcap : ∀ a l c, v = .slice a l c → l ≤ c) (hg1 : 1 < g) (hK : Kon w) (hz : ∀ z ∈ bs, 0 ≤ z ∧ z < 256) (hlim : bs.length + b.length ≤ 4611686018427380000) :
    Calls Tryd.prog 15 #[.pointer (some ⟨g, 0, none⟩), v] w fun e w' => e = .returned (.tuple #[]) ∧ w'.heap[g]? = some (.cells (mst key (bs ++ b)) 43 (0, 0)) ∧ w.grownBy w' (some g) := by
  have h := a_writeR (mrest key) 43 (kin key ++ bs) b g w v rM hB hne hcap hg1 hK (both_bd (kin_bd key) hz) (by rw [List.length_append, kin_len]; omega)
  rw [List.append_assoc] at h
  exact h
set_option maxRecDepth 100000 in
set_option maxHeartbeats 8000000 in
theorem macPieces_any (key : List Int) (ps : List (List Int)) (w : World) (vk vp : Value) (hS : Sta w) (hK : Kon w) (hKy : BysN w vk key) (qK : ∀ a l c, vk = .slice a l c → l ≤ c) (hP : PcsC w vp ps) (hsz : ps.flatten.length ≤ 4194304) : Calls Tryd.prog 5 #[vk, vp] w fun e w' => e = .returned (.bool true) ∧ Below w.heap.size w w' := by
  have lK : key.length ≤ 140737488351232 := hKy.2.1
  have zK := bys_bd hKy.1
  replace hKy := hKy.toM
  obtain ⟨uk, ukc, rfl, _⟩ := id hKy.1
  obtain ⟨pao, pcap, rfl, hpl, hpc⟩ := hP
  have hk1 := hK.sz
  have hfl := flat_len ps
  have hfn := flat_next ps
  have hfa := flat_all ps
  obtain ⟨E, eE⟩ : ∃ E : List Int, E = [] := ⟨_, rfl⟩
  have lE : E.length = 0 := by rw [eE]; rfl
  have zE : ∀ z ∈ E, 0 ≤ z ∧ z < 256 := by rw [eE]; intro z h; cases h
  have cN := a_mnew key w _ hS hK hKy.1 qK (by omega)
  rw [← eE] at cN
  have e0 : flat ps 0 = E := by rw [eE]; rfl
  replace eE := hide eE
  replace e0 := hide e0
  generalize enp : ps.length = np at *
  go_enter Tryd.func5, Tryd.ntmps5
  go_wp2_with (fail)
  refine cN.mono ?_
  rintro e_ w1 ⟨gM, rfl, hgM, rM, hw⟩
  clear cN
  have hHl := hm_len key E
  have cA := a_msum key E gM w1 (hK.below hw) rM zE (by omega)
  go_wp2_with (fail)
  refine cA.mono ?_
  rintro e_ w21 ⟨rfl, hb⟩
  replace rM := keep hb rM
  replace hw := Below.after hw hb
  clear hb cA
  have hnE : Bys w21 (.slice none 0 0) E := by rw [eE.out]; exact bys_nil _
  have cB := a_macSum key E w21 _ (.slice none 0 0) (hS.below hw) (hK.below hw) (hKy.1.keep hw) qK (by omega) hnE (fun a l c h => by cases h; exact Nat.le_refl _) (by omega)
  generalize hm key E = H at *
  have heq := eqHm H hHl
  go_wp2_with (fail)
  refine cB.mono ?_
  rintro e_ w2 ⟨rfl, hb⟩
  replace rM := keep hb rM
  replace hw := Below.after hw hb
  clear hb cB
  go_wp2_with (fail)
  refine (vec_any w2 (hS.below hw) (hK.below hw)).mono ?_
  rintro e_ w3 ⟨rfl, hb⟩
  replace rM := keep hb rM
  replace hw := Below.after hw hb
  clear hb heq hnE hHl
  generalize w3 = w4 at *
  have hown : w4.ownsRow (gM + 1) 5 1 (.slice none 0 0) (flat ps 0).length ((flat ps 0).map (Value.int .u8)) := by rw [e0.out, eE.out]; exact ⟨rfl, .inl ⟨rfl, rfl⟩⟩
  rw [← e0.out] at rM
  go_wp2
  go_loopw [6, 7] (fun x i wr => ∃ k : Nat, k ≤ np ∧ i = .int .i64 k ∧ wr.heap[gM]? = some (.cells (mst key (flat ps k)) 43 (0, 0)) ∧ wr.ownsRow (gM + 1) 5 1 x (flat ps k).length ((flat ps k).map (Value.int .u8)) ∧ (∀ z ∈ flat ps k, 0 ≤ z ∧ z < 256) ∧ Below w.heap.size w wr) (fun _ i _ => np - (intOf i).toNat)
  case atStart => exact ⟨0, by omega, rfl, rM, hown, (by rw [e0.out]; exact zE), hw⟩
  case round =>
    clear rM hown hw
    obtain ⟨k, hk, rfl, rM, hown, hfz, hw⟩ := hrel
    obtain ⟨xo, xc, rfl⟩ := slen_own hown
    have hfk := hfl k
    have hgl := lt_of_row rM
    by_cases hlt : k < np
    · have hd : decide ((k : Int) < (np : Int)) = true := by simp; omega
      obtain ⟨pb, poff, u, uc, rfl, hpb, hpcell, hBk, hun, hcap⟩ := hpc k hlt
      have hzP := bys_bd hBk
      have hF1 := hfn k hlt
      have hf1 := hfl (k + 1)
      rw [hF1, List.length_append] at hf1
      have hneP : ∀ a l c, Value.slice u (ps.getD k []).length uc = .slice (some a) l c → 0 < l → a.block ≠ gM := fun a l c h hl => by
        have := bys_ne hBk a l c h hl
        omega
      replace hF1 := hide hF1
      clear hpc hfn hfl hfa
      generalize ps.getD k [] = P at *
      generalize flat ps k = Fk at *
      have hc1 := (hw.cell (p := ⟨pb, poff + k, none⟩) hpb).trans hpcell
      have hbd : Below wr.heap.size wr wr.drew := below_drN (Below.refl _ _) 1
      have cW := a_mwrite key Fk P gM wr.drew (.slice u P.length uc) (keep hbd rM) ((hBk.keep hw).keep hbd) hneP (fun a l c h => by cases h; exact hcap) (by omega) ((hK.below hw).below hbd) hfz (by omega)
      go_wp2_with (fail)
      refine wp_region_noPanic ?_
      go_region_law ((refine step_call 15 _ (by rfl) (by kernel_rfl) (ex1 cW) ?_
                      rintro v_ w5 ⟨rfl, rM5, hgr⟩))
      refine NoPanic.normal ?_
      have own5 := (own_keep hown hbd).kept hgr (.inr (by intro e; have := (hown.lt gM e).1; omega))
      have hw5 := (Below.after hw hbd).grown hgr (by have := hw.size; show w.heap.size ≤ wr.heap.size; omega) (fun q h => by injection h with h; omega)
      have hs5 : gM < w5.heap.size := lt_of_row rM5
      clear cW hgr rM hown hw hc1 hbd
      have rM := rM5
      have hw := hw5
      clear rM5 hw5
      have hc2 := (hw.cell (p := ⟨pb, poff + k, none⟩) hpb).trans hpcell
      have hba : Below w5.heap.size w5 (w5.alloc (.cells #[.slice xo Fk.length xc, .slice u P.length uc] 22)) := (Below.refl _ _).alloc (Nat.le_refl _) _
      have hPc := Pcs.two (hp1_0 w5 (.cells #[.slice xo Fk.length xc, .slice u P.length uc] 22)) ((NB.of_own own5 (by omega) hfz).keep hba) (⟨(hBk.keep hw).keep hba, fun a l c h ha => by cases h; exact hun ha⟩)
      go_wp2_with (fail)
      refine (l_joined [Fk, P] _ _ hPc (by simp; omega)).mono ?_
      rintro e_ w6 ⟨vJ, rfl, hown, hb⟩
      rw [show [Fk, P].flatten = Fk ++ P by simp] at hown
      replace hown : w6.ownsRow (gM + 1) 5 1 vJ _ _ := own_lower hown (by rw [size_alloc1]; omega)
      replace hb := Below.after hba hb
      replace rM := keep hb rM
      replace hw := Below.after hw hb
      clear hb hba hPc own5 hc2
      have hzz := both_bd hfz hzP
      have hLb : (Fk ++ P).length ≤ 4194304 := by rw [List.length_append]; omega
      generalize Fk ++ P = L at *
      obtain ⟨jo, jc, rfl⟩ := slen_own hown
      have hHl := hm_len key L
      have cA := a_msum key L gM w6 (hK.below hw) rM hzz (by omega)
      go_wp2_with (fail)
      refine cA.mono ?_
      rintro e_ w71 ⟨rfl, hb⟩
      replace rM := keep hb rM
      replace hown := own_keep hown hb
      replace hw := Below.after hw hb
      clear hb cA
      have cB := a_macSum key L w71 _ (.slice jo L.length jc) (hS.below hw) (hK.below hw) (hKy.1.keep hw) qK (by omega) (Bys.of_own hown (by omega) hzz) (own_cap hown) (by omega)
      generalize hm key L = H at *
      have heq := eqHm H hHl
      go_wp2_with (fail)
      refine cB.mono ?_
      rintro e_ w7 ⟨rfl, hb⟩
      replace rM := keep hb rM
      replace hown := own_keep hown hb
      replace hw := Below.after hw hb
      clear hb cB
      go_wp2
      refine ⟨⟨k + 1, by omega, by go_num, by rw [hF1.out]; exact rM, by rw [hF1.out]; exact hown, by rw [hF1.out]; exact hzz, hw⟩, ?_⟩
      simp [intOf]; omega
    · obtain rfl : k = np := by omega
      have hd : decide ((k : Int) < (k : Int)) = false := by simp
      generalize flat ps k = L at *
      have hLb : L.length ≤ 4194304 := by omega
      clear hpc hfn hfl hfa hfk
      go_wp2_with (fail)
      refine (a_mreset key L gM wr rM).mono ?_
      rintro e_ w5 ⟨rfl, rM5, hgr⟩
      replace hown := hown.kept hgr (.inr (by intro e; have := (hown.lt gM e).1; omega))
      replace hw := hw.grown hgr hw.size (fun q h => by injection h with h; omega)
      rw [← eE.out] at rM5
      clear rM hgr
      have hneL : ∀ a l c, Value.slice xo L.length xc = .slice (some a) l c → 0 < l → a.block ≠ gM := fun a l c h _ => by
        cases h
        have := (hown.lt a.block rfl).1
        omega
      have cW := a_mwrite key E L gM w5 _ rM5 (Bys.of_own hown (by omega) hfz) hneL (own_cap hown) (by omega) (hK.below hw) zE (by omega)
      rw [show E ++ L = L by rw [eE.out]; rfl] at cW
      go_wp2_with (fail)
      refine cW.mono ?_
      rintro e_ w6 ⟨rfl, rM, hgr⟩
      replace hown := hown.kept hgr (.inr (by intro e; have := (hown.lt gM e).1; omega))
      replace hw := hw.grown hgr hw.size (fun q h => by injection h with h; omega)
      clear cW hgr rM5
      have hHl := hm_len key L
      have cA := a_msum key L gM w6 (hK.below hw) rM hfz (by omega)
      go_wp2_with (fail)
      refine cA.mono ?_
      rintro e_ w81 ⟨rfl, hb⟩
      replace rM := keep hb rM
      replace hown := own_keep hown hb
      replace hw := Below.after hw hb
      clear hb cA
      have cB := a_macSum key L w81 _ (.slice xo L.length xc) (hS.below hw) (hK.below hw) (hKy.1.keep hw) qK (by omega) (Bys.of_own hown (by omega) hfz) (own_cap hown) (by omega)
      generalize hm key L = H at *
      have heq := eqHm H hHl
      go_wp2_with (fail)
      refine cB.mono ?_
      rintro e_ w8 ⟨rfl, hb⟩
      replace rM := keep hb rM
      replace hown := own_keep hown hb
      replace hw := Below.after hw hb
      clear hb cB
      go_wp2_with (fail)
      clear heq hHl
      refine (a_mreset key L gM w8 rM).mono ?_
      rintro e_ w9 ⟨rfl, rM9, hgr⟩
      replace hw := hw.grown hgr hw.size (fun q h => by injection h with h; omega)
      rw [← eE.out] at rM9
      clear rM hgr hown
      have rM := rM9
      clear rM9
      have hHl := hm_len key E
      have cA := a_msum key E gM w9 (hK.below hw) rM zE (by omega)
      go_wp2_with (fail)
      refine cA.mono ?_
      rintro e_ wz1 ⟨rfl, hb⟩
      replace rM := keep hb rM
      replace hw := Below.after hw hb
      clear hb cA
      have hnE : Bys wz1 (.slice none 0 0) E := by rw [eE.out]; exact bys_nil _
      have cB := a_macSum key E wz1 _ (.slice none 0 0) (hS.below hw) (hK.below hw) (hKy.1.keep hw) qK (by omega) hnE (fun a l c h => by cases h; exact Nat.le_refl _) (by omega)
      generalize hm key E = H at *
      have heq := eqHm H hHl
      go_wp2_with (fail)
      refine cB.mono ?_
      rintro e_ wz ⟨rfl, hb⟩
      replace rM := keep hb rM
      replace hw := Below.after hw hb
      clear hb cB
      go_wp2
      go_ret
      exact ⟨rfl, hw⟩

end Go.Proofs.YtmcokphkaekdaabDoor
