import Derived.Test.YtjoohgkgkabbpaaGreatDoorProg
import Derived.WalkKit
import Derived.WalkSpells
import Derived.WalkLawsBesides
import Derived.Lib.QuietBelow
import Derived.Laws.BitsAllLaws
import Derived.BigQuiet
import Derived.WalkMore
import Derived.Test.YtjoohgkgkabbpaaGreatDoorUOpen
import Derived.Test.YtjoohgkgkabbpaaGreatDoorUQd0
import Derived.Test.YtjoohgkgkabbpaaGreatDoorUQa1
import Derived.Laws.BytesArg
import Derived.Deep.Slices
import Derived.Deep.Cut
import Derived.OwnWalk
import Derived.Lib.SlBytesConst
import Derived.Test.YtjoohgkgkabbpaaGreatDoorUEve
import Derived.Test.YtjoohgkgkabbpaaGreatDoorUQb0
import Derived.Test.YtjoohgkgkabbpaaGreatDoorUUa
import Derived.Test.YtjoohgkgkabbpaaGreatDoorUQb3
namespace Go.Proofs.YtjoohgkgkabbpaaGreatDoor
set_option maxRecDepth 100000
open Go Go.RowKit Go.Sort
attribute [local go_sem] setCell_drewN alloc_drewN
end Go.Proofs.YtjoohgkgkabbpaaGreatDoor
namespace Go.Proofs.YtjoohgkgkabbpaaGreatDoor
set_option maxRecDepth 100000
open Go Go.RowKit Go.Sort
attribute [local go_sem] setCell_drewN alloc_drewN
theorem bke_ok {v : Nat} {n : Int} (h : bke v n = 0) : known10 v = true ∧ 0 ≤ n ∧ n ≤ 1048576 := by
 unfold bke at h
 split at h
 ·rename_i q
  refine ⟨q, ?_⟩
  split at h
  ·cases h
  ·split at h
   ·cases h
   ·omega
 ·cases h
theorem bkd_bd (v : Nat) (n : Int) (h0 : 0 ≤ n) (h : n ≤ 1048576) : bkd (dg v) (4 + n.toNat) ≤ 2097160 := by
 have := bkd_le (dg v) (4 + n.toNat) (dg_pos v)
 have : max (4 + n.toNat) 64 ≤ 1048580 := Nat.max_le.2 ⟨by omega, by decide⟩
 omega
theorem ne_dec (v : Nat) (n : Int) (h : ¬ bke v n = 0) : (bke v n == 0) = false := by simp [h]
end Go.Proofs.YtjoohgkgkabbpaaGreatDoor
namespace Go.Proofs.YtjoohgkgkabbpaaGreatDoor
set_option maxRecDepth 100000
open Go Go.RowKit Go.Sort
attribute [local go_sem] setCell_drewN alloc_drewN
theorem make_i64 (n : Nat) (h : n ≤ 281474976710656) (W : World) : (Instr.makeSlice 22 (.int .i64 (n : Int)) (.int .i64 (n : Int))).run Tryz.prog W = .ok (.slice (some ⟨W.heap.size, 0, none⟩) n n) (W.alloc (.cells (irow .u8 (zr n)) 5)) := by
 rw [← made_irow]
 exact run_make_row' 22 5 (.int .u8 0) 1 Tryz.underlying22 (by kernel_rfl) rfl .i64 .i64 n (by omega) (by omega) W
theorem getD_append_lt (a b : List Int) (j : Nat) (h : j < a.length) : (a ++ b).getD j 0 = a.getD j 0 := by
 rw [List.getD_eq_getElem?_getD, List.getD_eq_getElem?_getD, List.getElem?_append_left h]
theorem elem810 : Tryz.prog.underlying 22 = some (.slice (Tryz.prog.elem 22)) := by kernel_rfl
theorem size810 (W : World) : (sizeOf (Tryz.prog.elem 22)).run Tryz.prog W = .ok 1 W := by kernel_rfl
def BysM (W : World) (v : Value) (bs : List Int) : Prop := Bys W v bs ∧ bs.length ≤ 211106232532992 ∧ (∀ a l c, v = .slice a l c → a = none → c = 0)
theorem BysM.keep {W W' : World} {v : Value} {bs : List Int} (h : BysM W v bs) (hb : Below W.heap.size W W') : BysM W' v bs := ⟨h.1.keep hb, h.2⟩
theorem Bys.of_prefix {W : World} {g : Nat} {l m : List Int} {t : TypeId} (hg : W.heap[g]? = some (.cells (irow .u8 (l ++ m)) t (0, 0))) (hl : l.length ≤ 9223372036854775807) (hz : ∀ z ∈ l, 0 ≤ z ∧ z < 256) (cap : Nat) : Bys W (.slice (some ⟨g, 0, none⟩) l.length cap) l := by
 refine ⟨_, cap, rfl, hl, fun j hj => ⟨g, 0, rfl, lt_of_row hg, ?_⟩, hz⟩
 rw [Nat.zero_add, irow_cell hg (by rw [List.length_append]; omega), getD_append_lt _ _ _ hj]
theorem Bys.grown {W W' : World} {v : Value} {bs : List Int} {g : Nat} (h : Bys W v bs) (hb : W.grownBy W' (some g)) (hne : ∀ a l c, v = .slice (some a) l c → 0 < l → a.block ≠ g) : Bys W' v bs := by
 obtain ⟨ao, cap, rfl, hl, hc, hz⟩ := h
 refine ⟨ao, cap, rfl, hl, fun j hj => ?_, hz⟩
 obtain ⟨b, off, rfl, h1, h2⟩ := hc j hj
 have hn : b ≠ g := hne ⟨b, off, none⟩ _ _ rfl (by omega)
 exact ⟨b, off, rfl, Nat.lt_of_lt_of_le h1 hb.size, hb.cell h2 (by intro e; injection e with e; exact hn e)⟩
def NB (W : World) (v : Value) (bs : List Int) : Prop := Bys W v bs ∧ (∀ a l c, v = .slice a l c → a = none → c = 0)
theorem NB.keep {W W' : World} {v : Value} {bs : List Int} (h : NB W v bs) (hb : Below W.heap.size W W') : NB W' v bs := ⟨h.1.keep hb, h.2⟩
theorem NB.grown {W W' : World} {v : Value} {bs : List Int} {row : Option Nat} (h : NB W v bs) (hb : W.grownBy W' row) (hne : ∀ a l c, v = .slice (some a) l c → 0 < l → row ≠ some a.block) : NB W' v bs := by
 obtain ⟨⟨ao, cap, rfl, hl, hc, hz⟩, hn⟩ := h
 refine ⟨⟨ao, cap, rfl, hl, fun j hj => ?_, hz⟩, hn⟩
 obtain ⟨b, off, rfl, h1, h2⟩ := hc j hj
 have hn' := hne ⟨b, off, none⟩ _ _ rfl (by omega)
 exact ⟨b, off, rfl, Nat.lt_of_lt_of_le h1 hb.size, hb.cell h2 (by intro e; exact hn' e.symm)⟩
theorem Bys.take {W : World} {ao : Option Addr} {cap n : Nat} {bs : List Int} (h : Bys W (.slice ao bs.length cap) bs) (hn : n ≤ bs.length) : Bys W (.slice ao n cap) (bs.take n) := by
 obtain ⟨ao', cap', e, hl, hc, hz⟩ := h
 cases e
 have hln : (bs.take n).length = n := by rw [List.length_take]; omega
 refine ⟨ao, cap, by rw [hln], by omega, fun j hj => ?_, fun z h => hz z (List.mem_of_mem_take h)⟩
 obtain ⟨b, off, e, h1, h2⟩ := hc j (by omega)
 refine ⟨b, off, e, h1, ?_⟩
 rw [h2, List.getD_eq_getElem?_getD, List.getD_eq_getElem?_getD, List.getElem?_take_of_lt (by omega)]
theorem make_len (n : Nat) (hn : n ≤ 140737488355328) (w : World) : (Instr.makeSlice 22 (.int .i64 (n : Int)) (.int .i64 (n : Int))).run Tryz.prog w = .ok (.slice (some ⟨w.heap.size, 0, none⟩) n n) (w.alloc (.cells (irow .u8 (zr n)) 5)) := make_i64 n (by omega) w
theorem conv_bys10 {W : World} {v : Value} {bs : List Int} (h : Bys W v bs) : (convert 22 9 v).run Tryz.prog W = .ok (.string (strOfNums bs)) W := by
 obtain ⟨ao, cap, rfl, _, hc, _⟩ := h
 cases ao with
 | none =>
  have : bs = [] := by
   cases bs with
   | nil => rfl
   | cons x xs => obtain ⟨b, off, e, _⟩ := hc 0 (by simp); cases e
  subst this
  exact run_convert_bytes_nil W 22 5 Tryz.underlying22 Tryz.underlying5 _ _ 9 Tryz.underlying9
 | some ad =>
  rcases Nat.eq_zero_or_pos bs.length with e0 | e0
  ·have : bs = [] := List.eq_nil_of_length_eq_zero e0
   subst this
   obtain ⟨b, off, sp⟩ := ad
   rw [run_convert_bytes_string W 22 9 5 _ _ _ Tryz.underlying22 Tryz.underlying5 Tryz.underlying9]
   have := run_bytesToString (P := Tryz.prog) W ⟨b, off, sp⟩ 0 cap [] (by rfl)
   exact this
  ·obtain ⟨b, off, e, _⟩ := hc 0 e0
   cases e
   exact run_convert_bytes_arg W 22 5 Tryz.underlying22 Tryz.underlying5 b off bs.length cap bs rfl (fun i hi => by
    obtain ⟨b', off', e, _, h⟩ := hc i hi
    cases e
    exact h) 9 Tryz.underlying9
theorem str_inj10 {a b : List Int} (ha : ∀ z ∈ a, 0 ≤ z ∧ z < 256) (hb : ∀ z ∈ b, 0 ≤ z ∧ z < 256) (h : strOfNums a = strOfNums b) : a = b := by
 have h1 := congrArg (fun x => x.data.toList) h
 simp only [strOfNums_data] at h1
 have key : ∀ (a b : List Int), (∀ z ∈ a, 0 ≤ z ∧ z < 256) → (∀ z ∈ b, 0 ≤ z ∧ z < 256) → a.map (fun n => UInt8.ofNat n.toNat) = b.map (fun n => UInt8.ofNat n.toNat) → a = b := by
  intro a
  induction a with
  | nil => intro b _ _ h; cases b with
   | nil => rfl
   | cons y ys => simp at h
  | cons x xs ih => intro b ha hb h; cases b with
   | nil => simp at h
   | cons y ys =>
    simp only [List.map_cons, List.cons.injEq] at h
    have hx := ha x (by simp)
    have hy := hb y (by simp)
    have e := congrArg UInt8.toNat h.1
    simp only [UInt8.toNat_ofNat'] at e
    rw [Nat.mod_eq_of_lt (by omega), Nat.mod_eq_of_lt (by omega)] at e
    have exy : x = y := by omega
    rw [exy, ih ys (fun z h => ha z (by simp [h])) (fun z h => hb z (by simp [h])) h.2]
 exact key a b ha hb h1
theorem str_dec10 {a b : List Int} (ha : ∀ z ∈ a, 0 ≤ z ∧ z < 256) (hb : ∀ z ∈ b, 0 ≤ z ∧ z < 256) : ((strOfNums a).toList == (strOfNums b).toList) = decide (a = b) := by
 by_cases h : a = b
 ·subst h; simp
 ·rw [decide_eq_false h, beq_eq_false_iff_ne]
  intro e
  rw [ByteArray.toList_eq, ByteArray.toList_eq] at e
  exact h (str_inj10 ha hb (Go.WideShapes.bytes_inj e))
set_option maxRecDepth 100000 in
set_option maxHeartbeats 4000000 in
theorem s_same (a b : List Int) (w : World) (u v : Value) (hu : Bys w u a) (hv : Bys w v b) : Calls Tryz.prog 20 #[u, v] w fun e w' => e = .returned (.bool (decide (a = b))) ∧ Below w.heap.size w w' := by
 have c1 := conv_bys10 hu
 have c2 := conv_bys10 hv
 obtain ⟨ao, cap, rfl, _, _, hza⟩ := hu
 obtain ⟨bo, bcap, rfl, _, _, hzb⟩ := hv
 go_enter Tryz.func20, Tryz.ntmps20
 have hd := str_dec10 hza hzb
 go_wp2
 go_ret
 exact ⟨rfl, Below.refl _ _⟩
theorem or_set {W : World} {b g m c t : Nat} {e : TypeId} {l : List Int} {z : Int} (h : W.ownsRow b e 1 (.slice (some ⟨g, 0, none⟩) m c) m (l.map (Value.int .u8))) : (W.setCell ⟨g, t, none⟩ (.int .u8 z)).ownsRow b e 1 (.slice (some ⟨g, 0, none⟩) m c) m ((l.set t z).map (Value.int .u8)) ∨ m ≤ t := by
 by_cases ht : m ≤ t
 ·exact .inr ht
 refine .inl ?_
 obtain ⟨q1, ⟨hv, _⟩ | ⟨g1, cap1, cur, hv, hbg, hg, hnc, hcm, hcs, htake⟩⟩ := h
 ·cases hv
 ·cases hv
  refine ⟨by rw [List.length_map, List.length_set]; rw [List.length_map] at q1; exact q1, .inr ⟨g, c, cur.setIfInBounds t (.int .u8 z), rfl, hbg, heap_setCell_same W g t cur _ (.int .u8 z) hg, hnc, hcm, by rw [Array.size_setIfInBounds]; exact hcs, ?_⟩⟩
  rw [Array.toList_setIfInBounds, List.take_set, htake, List.map_set]
theorem or_other {W : World} {b g g' m c t : Nat} {e : TypeId} {xs : List Value} {v : Value} (h : W.ownsRow b e 1 (.slice (some ⟨g, 0, none⟩) m c) m xs) (hx : g ≠ g') : (W.setCell ⟨g', t, none⟩ v).ownsRow b e 1 (.slice (some ⟨g, 0, none⟩) m c) m xs := by
 obtain ⟨q1, ⟨hv, _⟩ | ⟨g1, cap1, cur, hv, hbg, hr, hq⟩⟩ := h
 ·cases hv
 ·cases hv
  exact ⟨q1, .inr ⟨g, c, cur, rfl, hbg, heap_other hr hx, hq⟩⟩
def ApR (lo : Nat) (W : World) (xs : List (Option Nat × Nat × Nat)) (P : Nat → List Int → Prop) : Prop := ∀ (j g m c : Nat), xs[j]? = some (some g, m, c) → ∃ l : List Int, l.length = m ∧ W.ownsRow lo 5 1 (.slice (some ⟨g, 0, none⟩) m c) m (l.map (Value.int .u8)) ∧ P j l
def ApD (xs : List (Option Nat × Nat × Nat)) : Prop := ∀ (i j : Nat) (g m n c d : Nat), xs[i]? = some (some g, m, c) → xs[j]? = some (some g, n, d) → i = j
theorem ApR.mono {lo : Nat} {W : World} {xs : List (Option Nat × Nat × Nat)} {P Q : Nat → List Int → Prop} (h : ApR lo W xs P) (hq : ∀ (j : Nat) l g m c, xs[j]? = some (some g, m, c) → l.length = m → P j l → Q j l) : ApR lo W xs Q := fun j g m c hj => by
 obtain ⟨l, h1, h2, h3⟩ := h j g m c hj
 exact ⟨l, h1, h2, hq _ _ _ _ _ hj h1 h3⟩
theorem ApR.put {lo : Nat} {W : World} {xs : List (Option Nat × Nat × Nat)} {P Q : Nat → List Int → Prop} (h : ApR lo W xs P) (hd : ApD xs) {k g m c t : Nat} {z : Int} (hk : xs[k]? = some (some g, m, c)) (ht : t < m) (hp : ∀ l, l.length = m → P k l → Q k (l.set t z)) (hq : ∀ j l, j ≠ k → P j l → Q j l) : ApR lo (W.setCell ⟨g, t, none⟩ (.int .u8 z)) xs Q := fun j g' m' c' hj => by
 obtain ⟨l, h1, h2, h3⟩ := h j g' m' c' hj
 by_cases e : g' = g
 ·subst e
  obtain rfl := hd _ _ _ _ _ _ _ hk hj
  obtain ⟨_, rfl, rfl⟩ : True ∧ m = m' ∧ c = c' := ⟨trivial, by rw [hk] at hj; cases hj; exact ⟨rfl, rfl⟩⟩
  refine ⟨l.set t z, by rw [List.length_set]; exact h1, (or_set h2).resolve_right (by omega), hp l h1 h3⟩
 ·refine ⟨l, h1, or_other h2 e, hq j l (fun ej => e ?_) h3⟩
  subst ej
  rw [hk] at hj
  cases hj
  rfl
end Go.Proofs.YtjoohgkgkabbpaaGreatDoor
namespace Go.Proofs.YtjoohgkgkabbpaaGreatDoor
set_option maxRecDepth 100000
open Go Go.RowKit Go.Sort
attribute [local go_sem] setCell_drewN alloc_drewN
theorem slice_rest (b0 o m c n : Nat) (h : n ≤ m) (hc : m ≤ c) : ∃ ao2 : Option Addr, (n < m → ao2 = some ⟨b0, o + n, none⟩) ∧ ∀ W, (Instr.sliceAt 22 (.slice (some ⟨b0, o, none⟩) m c) (some (.int .i64 (n : Int))) none none).run Tryz.prog W = .ok (.slice ao2 (m - n) (c - n)) W := by
 refine ⟨if c = n then some ⟨b0, o, none⟩ else some ⟨b0, o + n, none⟩, fun hn => if_neg (by omega), fun W => ?_⟩
 rw [run_sliceAt_slice _ _ _ _ _ _ elem810, run_slice_l W 22 (some ⟨b0, o, none⟩) m c elem810 .i64 _ (by omega) (by omega), size810]
 show Result.ok (sliced _ _ _ _ 1) W = _
 rw [Int.toNat_natCast, sliced, Nat.mul_one, Option.map_some, addr_add]
theorem bys_rowF {W : World} {g n : Nat} {l : List Int} {t : TypeId} {fr : Nat × Nat} (hg : W.heap[g]? = some (.cells (irow .u8 l) t fr)) (hl : l.length ≤ 9223372036854775807) (hz : ∀ z ∈ l, 0 ≤ z ∧ z < 256) (hn : l.length = n) {cap : Nat} : Bys W (.slice (some ⟨g, 0, none⟩) n cap) l := by
 subst hn
 refine ⟨_, _, rfl, hl, fun j hj => ⟨g, 0, rfl, lt_of_row hg, ?_⟩, hz⟩
 rw [Nat.zero_add, cell_of_row _ _ _ _ _ _ hg]
 simp [irow, List.getD_eq_getElem?_getD, List.getElem?_eq_getElem hj]
theorem head_bysB {W : World} {g n : Nat} {e : List B} {m : List Int} {t : TypeId} (hg : W.heap[g]? = some (.cells (irow .u8 (bl e ++ m)) t (0, 0))) (hn : e.length = n) (hl : n ≤ 140737488355000) (cap : Nat) : BysB W (.slice (some ⟨g, 0, none⟩) n cap) e := by
 have h := Bys.of_prefix hg (by rw [bl_len]; omega) (bl_bnd e) cap
 rw [bl_len, hn] at h
 exact ⟨h, by omega, fun a l c h h2 => by cases h; cases h2⟩
theorem row_bysB {W : World} {g n : Nat} {e : List B} {t : TypeId} (hg : W.heap[g]? = some (.cells (irow .u8 (bl e)) t (0, 0))) (hn : e.length = n) (hl : n ≤ 140737488355000) (cap : Nat) : BysB W (.slice (some ⟨g, 0, none⟩) n cap) e := head_bysB (m := []) (by rw [List.append_nil]; exact hg) hn hl cap
theorem sB_same (a b : List B) (w : World) (u v : Value) (hu : Bys w u (bl a)) (hv : Bys w v (bl b)) : Calls Tryz.prog 20 #[u, v] w fun e w' => e = .returned (.bool (decide (a = b))) ∧ Below w.heap.size w w' := by
 have h := s_same (bl a) (bl b) w u v hu hv
 rw [bl_dec] at h
 exact h
end Go.Proofs.YtjoohgkgkabbpaaGreatDoor
namespace Go.Proofs.YtjoohgkgkabbpaaGreatDoor
set_option maxRecDepth 100000
open Go Go.RowKit Go.Sort
attribute [local go_sem] setCell_drewN alloc_drewN
def pdk (l k b : Nat) : List Int := ((List.range k).map fun i => ((l / 256 ^ i % 256 : Nat) : Int)) ++ zr (b - k)
theorem pdk_len (l k b : Nat) (h : k ≤ b) : (pdk l k b).length = b := by simp [pdk, zr_len]; omega
theorem pdk_zero (l b : Nat) : pdk l 0 b = zr b := by simp [pdk]
theorem pdk_set (l k b : Nat) (h : k < b) : (pdk l k b).set k ((l / 256 ^ k % 256 : Nat) : Int) = pdk l (k + 1) b := by
 have e1 : zr (b - k) = 0 :: zr (b - (k + 1)) := by
  rw [show b - k = (b - (k + 1)) + 1 by omega]; rfl
 unfold pdk
 rw [e1, List.set_append_right _ _ (by simp)]
 simp [List.range_succ]
def pd4 (l : Nat) : List B := [BitVec.ofNat 8 l, BitVec.ofNat 8 (l / 256), BitVec.ofNat 8 (l / 65536), BitVec.ofNat 8 (l / 16777216)]
def pdb (b : Nat) (d : List B) : List B := pd4 d.length ++ d ++ List.replicate (b - 4 - d.length) 0#8
theorem pdb_len (b : Nat) (d : List B) (h : 4 + d.length ≤ b) : (pdb b d).length = b := by simp [pdb, pd4]; omega
theorem pdb_bl (b : Nat) (d : List B) : (pdk d.length 4 b).take 4 ++ bl d ++ (pdk d.length 4 b).drop (4 + (bl d).length) = bl (pdb b d) := by
 rw [bl_len, pdb, bl_app, bl_app, bl_zr, ← List.drop_drop]
 have e0 : pdk d.length 4 b = bl (pd4 d.length) ++ zr (b - 4) := by
  unfold pdk
  congr 1
  simp [List.range_succ, bl, bv, pd4]
 have e1 : (bl (pd4 d.length)).length = 4 := rfl
 rw [e0, List.take_left' e1, List.drop_left' e1, zr_drop]
def pdr (v : Nat) (d : List B) : List B := if bke v (d.length : Int) = 0 then pdb (bkd (dg v) (4 + d.length)) d else []
theorem own_whole {W : World} {g base : Nat} {d : List B} (hg : W.heap[g]? = some (.cells (irow .u8 (bl d)) 5 (0, 0))) (hb : base ≤ g) (hl : d.length ≤ 281474976710656) : Own W base (.slice (some ⟨g, 0, none⟩) d.length d.length) d :=
 ⟨by simp [bl], .inr ⟨g, d.length, _, rfl, hb, hg, Nat.le_refl _, by unfold maxLen; omega, by simp [irow, bl], by simp only [irow, bl, Nat.mul_one]; exact List.take_of_length_le (by simp)⟩⟩
theorem own_none10 (W : World) (b : Nat) : Own W b (.slice none 0 0) [] := ⟨rfl, .inl ⟨rfl, rfl⟩⟩
theorem shr_nat (l k : Nat) (hk : k ≤ 3) : (l : Int) / 2 ^ (8 * k) % 256 = ((l / 256 ^ k % 256 : Nat) : Int) := by
 rcases (by omega : k = 0 ∨ k = 1 ∨ k = 2 ∨ k = 3) with rfl | rfl | rfl | rfl <;> omega
set_option maxRecDepth 100000 in
set_option maxHeartbeats 4000000 in
theorem a_Pad (ver : Int) (v : Nat) (hv : IntKind.wrap .u64 ver = (v : Int)) (hv2 : v < 18446744073709551616) (d : List B) (w : World) (dv : Value) (hD : BysB w dv d) : Calls Tryz.prog 52 #[.int .i64 ver, dv] w fun e w' => ∃ u, e = .returned (.tuple #[u, .int .i64 (bke v (d.length : Int))]) ∧ Own w' w.heap.size u (pdr v d) ∧ Below w.heap.size w w' := by
 have c1 := a_Bucket ver v hv hv2 (d.length : Int)
 obtain ⟨ao, cap, rfl⟩ := hD.form
 by_cases hz : bke v (d.length : Int) = 0
 ·obtain ⟨hk, q1, q2⟩ := bke_ok hz
  have hbd := bkd_bd v (d.length : Int) q1 q2
  have e2 : bko v (d.length : Int) = (bkd (dg v) (4 + d.length) : Int) := by unfold bko; simp [hz]
  have e3 : pdr v d = pdb (bkd (dg v) (4 + d.length)) d := by unfold pdr; simp [hz]
  have h64 := Nat.lt_of_lt_of_le (show 4 < 64 by decide) (bkd_64 (dg v) (4 + d.length) (dg_pos v) (dg_le v))
  have hge := bkd_ge (dg v) (4 + d.length) (dg_pos v) (dg_le v)
  rw [Int.toNat_natCast] at hbd
  rw [e2, hz] at c1
  rw [e3, hz]
  generalize bkd (dg v) (4 + d.length) = b at *
  have hDh := hide (fun V (h : Below w.heap.size w V) => hD.keep h)
  clear e2 e3 hz hk hD
  have hpb := pdb_bl b d
  have hpl := pdb_len b d hge
  go_enter Tryz.func52, Tryz.ntmps52
  go_wp2_with (fail)
  refine (c1.at _).mono ?_
  rintro e_ w1 ⟨rfl, hw⟩
  clear c1
  have hmk := make_len b (by omega) w1
  have r0 := hp1_0 w1 (.cells (irow .u8 (zr b)) 5)
  replace r0 : (w1.alloc (.cells (irow .u8 (zr b)) 5)).heap[w1.heap.size]? = some (.cells (irow .u8 (pdk d.length 0 b)) 5 (0, 0)) := by rw [pdk_zero]; exact r0
  have hw0 := hw.size
  replace hw := hw.alloc hw.size (.cells (irow .u8 (zr b)) 5)
  have sz := size_alloc1 w1 (.cells (irow .u8 (zr b)) 5)
  go_wp2
  generalize (w1.alloc (.cells (irow .u8 (zr b)) 5)) = w2 at *
  clear hmk
  go_loopw [22, 9] (fun i j wr => ∃ k : Nat, k ≤ 4 ∧ i = .int .i64 k ∧ wr.heap[w1.heap.size]? = some (.cells (irow .u8 (pdk d.length k b)) 5 (0, 0)) ∧ Below w.heap.size w wr) (fun i _ _ => 4 - (intOf i).toNat)
  case atStart => exact ⟨0, by omega, rfl, r0, hw⟩
  case round =>
   clear r0 hw
   obtain ⟨k, hk, rfl, r0, hw⟩ := hrel
   by_cases hlt : k < 4
   ·have hd : decide ((k : Int) < 4) = true := by simp; omega
    have cf := row_frozen r0 k
    have cc := irow_cell r0 (j := k) (by rw [pdk_len _ _ _ (by omega)]; omega)
    have r2 := irow_set r0 k ((d.length / 256 ^ k % 256 : Nat) : Int)
    rw [pdk_set _ _ _ (by omega)] at r2
    have hs := shr_nat d.length k (by omega)
    have hw2 := hw.setCell (show w.heap.size ≤ (⟨w1.heap.size, k, none⟩ : Addr).block from hw0) (.int .u8 ((d.length / 256 ^ k % 256 : Nat) : Int))
    clear r0 hw hpb
    generalize (pdk d.length k b).getD k 0 = z at *
    generalize ((d.length / 256 ^ k % 256 : Nat) : Int) = y at *
    go_wp2
    refine ⟨⟨k + 1, by omega, by go_num, r2, hw2⟩, ?_⟩
    simp [intOf]; omega
   ·obtain rfl : k = 4 := by omega
    have hd : decide ((4 : Int) < 4) = false := by decide
    obtain ⟨ao2, s1, s2⟩ := slice_rest w1.heap.size 0 b b 4 (by omega) (by omega)
    rw [s1 h64] at s2
    have s3 := s2 wr
    have hBd := (hDh.out _ hw).1
    have hcp := copy_bys (o := 0 + 4) (dLen := b - 4) (dCap := b - 4) r0 hBd (by rw [bl_len]; omega) (by rw [bl_len, pdk_len _ _ _ (by omega)]; omega)
    rw [Nat.zero_add, hpb] at hcp
    have hgo : goInt (bl d).length = .int .i64 (d.length : Int) := by rw [bl_len]; rfl
    rw [hgo] at hcp
    have r1 := setRow_heap _ w1.heap.size _ (irow .u8 (bl (pdb b d))) _ _ r0
    have hw3 := below_setRow hw hw0 (irow .u8 (bl (pdb b d)))
    clear s1 s2 r0 hpb hBd
    go_wp2
    go_ret2
    refine ⟨_, rfl, ?_, hw3⟩
    have := own_whole r1 hw0 (by omega)
    rw [hpl] at this
    exact this
 ·have e2 : bko v (d.length : Int) = 0 := by unfold bko; simp [hz]
  have e3 : pdr v d = [] := by unfold pdr; simp [hz]
  have e4 := ne_dec v (d.length : Int) hz
  rw [e2] at c1
  rw [e3]
  generalize bke v (d.length : Int) = e at *
  clear e2 e3
  go_enter Tryz.func52, Tryz.ntmps52
  go_wp2_with (fail)
  refine (c1.at _).mono ?_
  rintro e_ w1 ⟨rfl, hb⟩
  clear c1
  go_wp2
  go_ret2
  exact ⟨_, rfl, own_none10 _ _, hb⟩
end Go.Proofs.YtjoohgkgkabbpaaGreatDoor
namespace Go.Proofs.YtjoohgkgkabbpaaGreatDoor
set_option maxRecDepth 100000
open Go Go.RowKit Go.Sort
attribute [local go_sem] setCell_drewN alloc_drewN
def Owns (W : World) : Nat → List (Value × List B) → Nat → Prop
 | lo, [], hi => lo ≤ hi
 | lo, x :: r, hi => ∃ m, lo ≤ m ∧ Own W lo x.1 x.2 ∧ (∀ k, x.1.ownBlock = some k → k < m) ∧ x.2.length ≤ 140737488350000 ∧ Owns W m r hi
theorem Owns.le {W : World} : ∀ {l : List (Value × List B)} {lo hi : Nat}, Owns W lo l hi → lo ≤ hi
 | [], _, _, h => h
 | _ :: _, _, _, ⟨_, h1, _, _, _, h2⟩ => Nat.le_trans h1 h2.le
theorem Owns.keep {W V : World} : ∀ {l : List (Value × List B)} {lo hi : Nat}, Owns W lo l hi → Below W.heap.size W V → Owns V lo l hi
 | [], _, _, h, _ => h
 | _ :: _, _, _, ⟨m, h1, h2, h3, h4, h5⟩, hb => ⟨m, h1, h2.keep hb, h3, h4, h5.keep hb⟩
theorem Owns.snoc {W : World} {v : Value} {L : List B} : ∀ {l : List (Value × List B)} {lo hi : Nat}, Owns W lo l hi → Own W hi v L → L.length ≤ 140737488350000 → (hz : hi ≤ W.heap.size) → Owns W lo (l ++ [(v, L)]) W.heap.size
 | [], lo, hi, h, hO, hl, hz => ⟨W.heap.size, by have : lo ≤ hi := h; omega, own_down hO h, own_high hO, hl, Nat.le_refl _⟩
 | _ :: r, _, _, ⟨m, h1, h2, h3, h4, h5⟩, hO, hl, hz => ⟨m, h1, h2, h3, h4, h5.snoc hO hl hz⟩
end Go.Proofs.YtjoohgkgkabbpaaGreatDoor
namespace Go.Proofs.YtjoohgkgkabbpaaGreatDoor
set_option maxRecDepth 100000
open Go Go.RowKit Go.Sort
attribute [local go_sem] setCell_drewN alloc_drewN
def cnk (b : List B) : Nat → Nat
 | 0 => 0
 | k + 1 => cnk b k + (gb b k).toNat * 256 ^ k
def cnt (b : List B) : Nat := cnk b 4
theorem cnk_lt (b : List B) : ∀ k, cnk b k < 256 ^ k
 | 0 => by simp [cnk]
 | k + 1 => by
  have h := cnk_lt b k
  have h2 := (gb b k).isLt
  have h3 : (gb b k).toNat * 256 ^ k ≤ 255 * 256 ^ k := Nat.mul_le_mul_right _ (by omega)
  rw [cnk, Nat.pow_succ]
  omega
theorem pow_256 (k : Nat) : 256 ^ k = 2 ^ (8 * k) := by rw [Nat.pow_mul]
theorem cnk_or (b : List B) (k : Nat) : cnk b k ||| ((gb b k).toNat * 256 ^ k) = cnk b (k + 1) := by
 have h := Nat.shiftLeft_add_eq_or_of_lt (i := 8 * k) (b := cnk b k) (by rw [← pow_256]; exact cnk_lt b k) (gb b k).toNat
 rw [Nat.shiftLeft_eq, ← pow_256] at h
 rw [Nat.or_comm, ← h, cnk, Nat.add_comm]
theorem cnk_step (d : List B) (k : Nat) (hk : k < 4) : bits .or .u32 (cnk d k : Int) (bv (gb d k) % 4294967296 * 2 ^ (8 * k) % 4294967296) = (cnk d (k + 1) : Int) := by
 have h1 := cnk_lt d k
 have h2 := cnk_lt d (k + 1)
 have h3 := (gb d k).isLt
 have hp : 256 ^ (k + 1) ≤ 256 ^ 4 := Nat.pow_le_pow_right (by decide) (by omega)
 have hp2 : (256 : Nat) ^ 4 = 4294967296 := by decide
 have h4 : (gb d k).toNat * 256 ^ k < 4294967296 := by
  have h5 : (gb d k).toNat * 256 ^ k ≤ 255 * 256 ^ k := Nat.mul_le_mul_right _ (by omega)
  rw [Nat.pow_succ] at hp
  have h6 := Nat.pow_pos (n := k) (show 0 < 256 by decide)
  omega
 have h7 : cnk d k < 4294967296 := by
  have := Nat.pow_lt_pow_right (show 1 < 256 by decide) hk
  omega
 have e1 : bv (gb d k) % 4294967296 * 2 ^ (8 * k) % 4294967296 = (((gb d k).toNat * 256 ^ k : Nat) : Int) := by
  unfold bv
  rw [show (((gb d k).toNat : Nat) : Int) % 4294967296 = (((gb d k).toNat : Nat) : Int) by omega, pow_256, show ((2 : Int) ^ (8 * k)) = ((2 ^ (8 * k) : Nat) : Int) by rw [Int.natCast_pow]; rfl, ← Int.natCast_mul]
  rw [pow_256] at h4
  exact Int.emod_eq_of_lt (by omega) (by omega)
 rw [e1, ← cnk_or]
 exact u32_or_nat _ _ h7 h4
set_option maxRecDepth 100000 in
set_option maxHeartbeats 4000000 in
theorem a_countIn (d : List B) (w : World) (dv : Value) (hD : BysB w dv d) : Calls Tryz.prog 79 #[dv] w fun e w' => e = .returned (.tuple #[.int .i64 (if d.length < 4 then 0 else (cnt d : Int)), .bool (!decide (d.length < 4) && decide (cnt d ≤ 1048576))]) ∧ Below w.heap.size w w' := by
 by_cases h4 : d.length < 4
 ·obtain ⟨ao, cap, rfl⟩ := hD.form
  have hd : decide ((d.length : Int) < 4) = true := by simp; omega
  simp only [h4]
  go_enter Tryz.func79, Tryz.ntmps79
  go_wp2
  go_ret2
  exact ⟨rfl, Below.refl _ _⟩
 ·obtain ⟨ao, cap, rfl⟩ := hD.form
  have hcell := fun j (hj : j < 4) => hD.cellAt (j := j) (show j < d.length by omega)
  have hd : decide ((d.length : Int) < 4) = false := by simp; omega
  simp only [h4]
  go_enter Tryz.func79, Tryz.ntmps79
  go_wp2
  go_loopw [4, 9, 5] (fun n i j wr => ∃ k : Nat, k ≤ 4 ∧ i = .int .i64 k ∧ n = .int .u32 (cnk d k : Int) ∧ wr = w) (fun _ i _ _ => 4 - (intOf i).toNat)
  case atStart => exact ⟨0, by omega, rfl, rfl, rfl⟩
  case round =>
   obtain ⟨k, hk, rfl, rfl, rfl⟩ := hrel
   by_cases hlt : k < 4
   ·have hd : decide ((k : Int) < 4) = true := by simp; omega
    obtain ⟨b, off, rfl, hb, hc⟩ := hcell k hlt
    have ho := cnk_step d k hlt
    go_wp2
    refine ⟨⟨k + 1, by omega, by go_num, rfl, trivial⟩, ?_⟩
    simp [intOf]; omega
   ·obtain rfl : k = 4 := by omega
    have hd : decide ((4 : Int) < 4) = false := by decide
    have hc4 := cnk_lt d 4
    have hq : decide ((cnk d 4 : Int) ≤ 1048576) = decide (cnk d 4 ≤ 1048576) := by simp; omega
    go_wp2
    go_ret2
    exact ⟨rfl, Below.refl _ _⟩
def azr (d : List B) : Bool := d.all (· == 0#8)
theorem azr_drop (d : List B) (k : Nat) (h : k < d.length) : azr (d.drop k) = ((gb d k == 0#8) && azr (d.drop (k + 1))) := by
 rw [drop_at d k h]; rfl
theorem bv_zero (x : B) : (bv x == 0) = (x == 0#8) := by
 have h : bv x = 0 ↔ x = 0#8 := ⟨fun e => bv_inj.1 (e.trans (show (0 : Int) = bv 0#8 from rfl)), fun e => by rw [e]; rfl⟩
 rw [Bool.eq_iff_iff, beq_iff_eq, beq_iff_eq]
 exact h
set_option maxRecDepth 100000 in
set_option maxHeartbeats 4000000 in
theorem a_allZero (d : List B) (w : World) (dv : Value) (hD : BysB w dv d) : Calls Tryz.prog 80 #[dv] w fun e w' => e = .returned (.bool (azr d)) ∧ Below w.heap.size w w' := by
 obtain ⟨ao, cap, rfl⟩ := hD.form
 have hcell := fun j (hj : j < d.length) => hD.cellAt (j := j) hj
 have hdl := hD.2.1
 go_enter Tryz.func80, Tryz.ntmps80
 go_wp2
 go_loopw [7, 4] (fun i x wr => ∃ k : Nat, k ≤ d.length ∧ i = .int .i64 k ∧ azr d = azr (d.drop k) ∧ wr = w) (fun i _ _ => d.length - (intOf i).toNat)
 case atStart => exact ⟨0, by omega, rfl, rfl, rfl⟩
 case round =>
  obtain ⟨k, hk, rfl, hz, rfl⟩ := hrel
  by_cases hlt : k < d.length
  ·have hd : decide ((k : Int) < (d.length : Int)) = true := by simp; omega
   obtain ⟨b, off, rfl, hb, hc⟩ := hcell k hlt
   rw [azr_drop d k hlt, ← bv_zero] at hz
   generalize bv (gb d k) = x at *
   rcases hx : (x == 0)
   ·rw [hx, Bool.false_and] at hz
    replace hz := hide hz
    go_wp2
    go_ret
    exact ⟨by rw [hz.out]; rfl, Below.refl _ _⟩
   ·rw [hx, Bool.true_and] at hz
    replace hz := hide hz
    go_wp2
    refine ⟨⟨k + 1, by omega, by go_num, hz.out, trivial⟩, ?_⟩
    simp [intOf]; omega
  ·obtain rfl : k = d.length := by omega
   have hd : decide ((d.length : Int) < (d.length : Int)) = false := by simp
   rw [List.drop_length] at hz
   replace hz := hide hz
   go_wp2
   go_ret
   exact ⟨by rw [hz.out]; rfl, Below.refl _ _⟩
def upo (v : Nat) (b : List B) : Bool := !decide (b.length < 4) && decide (cnt b ≤ 1048576) && (bkd (dg v) (4 + cnt b) == b.length) && azr (b.drop (4 + cnt b))
def upe (v : Nat) (b : List B) : Int := if known10 v then (if upo v b then 0 else 101) else 100
def upr (v : Nat) (b : List B) : List B := if known10 v && upo v b then (b.drop 4).take (cnt b) else []
end Go.Proofs.YtjoohgkgkabbpaaGreatDoor
namespace Go.Proofs.YtjoohgkgkabbpaaGreatDoor
set_option maxRecDepth 100000
open Go Go.RowKit Go.Sort
attribute [local go_sem] setCell_drewN alloc_drewN
def slc10 (ao : Option Addr) (cap m n : Nat) : Value := .slice (if cap = m then ao else ao.map (·.add (m * 1))) (n - m) (cap - m)
theorem sl_mid10 (ao : Option Addr) (len cap m n : Nat) (h1 : m ≤ n) (h2 : n ≤ cap) (W : World) : (Instr.sliceAt 22 (.slice ao len cap) (some (.int .i64 (m : Int))) (some (.int .i64 (n : Int))) none).run Tryz.prog W = .ok (slc10 ao cap m n) W := by
 rw [run_sliceAt_slice _ _ _ _ _ _ elem810, run_slice_lh W 22 ao len cap elem810 .i64 .i64 _ _ (by omega) (by omega) (by omega), size810]
 show Result.ok (sliced _ _ _ _ 1) W = _
 rw [Int.toNat_natCast, Int.toNat_natCast, sliced]
 rfl
theorem bysB_mid10 {W : World} {ao : Option Addr} {cap m n : Nat} {d : List B} (h : BysB W (.slice ao d.length cap) d) (hmn : m ≤ n) (hn : n ≤ d.length) (hc : d.length ≤ cap) : BysB W (slc10 ao cap m n) ((d.drop m).take (n - m)) := by
 obtain ⟨⟨ao', c', e, hl, hce, hz⟩, h2, h3⟩ := h
 rw [bl_len] at e
 cases e
 have hln : (bl ((d.drop m).take (n - m))).length = n - m := by rw [bl_len, List.length_take, List.length_drop]; omega
 rw [bl_len] at hl hce
 refine ⟨⟨if cap = m then ao else ao.map (·.add (m * 1)), cap - m, by rw [hln]; rfl, by rw [hln]; omega, fun j hj => ?_, bl_bnd _⟩, by rw [List.length_take, List.length_drop]; omega, fun a l c hv ha => ?_⟩
 ·rw [hln] at hj
  obtain ⟨b2, off2, e2, hb, hcell⟩ := hce (m + j) (by omega)
  subst e2
  refine ⟨b2, off2 + m, ?_, hb, ?_⟩
  ·rw [if_neg (by omega), Option.map_some, addr_add, Nat.mul_one]
  ·rw [show off2 + m + j = off2 + (m + j) by omega, hcell, bl_get, bl_get, List.getD_eq_getElem?_getD, List.getD_eq_getElem?_getD, List.getElem?_take_of_lt hj, List.getElem?_drop]
 ·unfold slc10 at hv
  injection hv with q1 q2 q3
  subst q3
  subst q1
  cases ao with
  | none =>
   have := h3 none _ _ rfl rfl
   omega
  | some x =>
   split at ha
   ·cases ha
   ·cases ha
theorem slc_form10 (ao : Option Addr) (cap m n : Nat) : ∃ u c, slc10 ao cap m n = .slice u (n - m) c := ⟨_, _, rfl⟩
theorem sl_rest (ao : Option Addr) (len cap m : Nat) (h : m ≤ len) (W : World) : (Instr.sliceAt 22 (.slice ao len cap) (some (.int .i64 (m : Int))) none none).run Tryz.prog W = .ok (slc10 ao cap m len) W := by
 rw [run_sliceAt_slice _ _ _ _ _ _ elem810, run_slice_l W 22 ao len cap elem810 .i64 _ (by omega) (by omega), size810]
 show Result.ok (sliced _ _ _ _ 1) W = _
 rw [Int.toNat_natCast, sliced]
 rfl
set_option maxRecDepth 100000 in
set_option maxHeartbeats 4000000 in
theorem a_Unpad (ver : Int) (v : Nat) (hv : IntKind.wrap .u64 ver = (v : Int)) (hv2 : v < 18446744073709551616) (d : List B) (w : World) (dv : Value) (hD : BysB w dv d) (hcap : ∀ a l c, dv = .slice a l c → l ≤ c) : Calls Tryz.prog 53 #[.int .i64 ver, dv] w fun e w' => ∃ u, e = .returned (.tuple #[u, .int .i64 (upe v d)]) ∧ Own w' w.heap.size u (upr v d) ∧ Below w.heap.size w w' := by
 have c1 := a_rulesOf v hv2 w
 obtain ⟨ao, cap, rfl⟩ := hD.form
 replace hcap := hcap _ _ _ rfl
 rcases hk : known10 v
 ·rw [hk, bkf_not hk] at c1
  have e1 : upe v d = 100 := by unfold upe; simp [hk]
  have e2 : upr v d = [] := by unfold upr; simp [hk]
  rw [e1, e2]
  clear e1 e2 hk
  go_enter Tryz.func53, Tryz.ntmps53
  go_wp2_with (first | (simp only [hv]) | fail)
  refine c1.mono ?_
  rintro e_ w1 ⟨rfl, hb⟩
  clear c1
  have r0 := hp1_0 w1 (.cells #[Value.int IntKind.u64 0, Value.nilFunc] 94)
  have hb2 := hb.alloc (by have := hb.size; omega) (.cells #[Value.int IntKind.u64 0, Value.nilFunc] 94)
  have hb3 := below_setRow (g := w1.heap.size) hb2 (by have := hb.size; omega) #[Value.int IntKind.u64 (v : Int), Value.nilFunc]
  clear hb hb2
  go_wp2_with (first | (refine wpList_store_row rfl 94 _ _ rfl w1.heap.size #[.int .u64 (v : Int), Value.nilFunc] rfl rfl 94 _ r0 infoR rfl (oneN _) ?_) | fail)
  go_ret2
  exact ⟨_, rfl, own_none10 _ _, hb3⟩
 ·rw [hk, bkf_known hk] at c1
  have hDh := hide (fun V (h : Below w.heap.size w V) => hD.keep h)
  have c2 := hide (fun (n : Nat) (hn : n ≤ 1152921504606846000) => a_bucketOf v n hk hn)
  rw [bkf_known hk] at c2
  have cC := hide (a_countIn d)
  have hdl := hD.2.1
  obtain ⟨U, hU⟩ : ∃ U, upe v d = U := ⟨_, rfl⟩
  obtain ⟨R, hR⟩ : ∃ R, upr v d = R := ⟨_, rfl⟩
  rw [hU, hR]
  have eU : Hid (U = if upo v d then 0 else 101) := hide (by rw [← hU, upe, hk, if_pos rfl])
  have eR : Hid (R = if upo v d then (d.drop 4).take (cnt d) else []) := hide (by rw [← hR, upr, hk, Bool.true_and])
  clear hU hR hk
  go_enter Tryz.func53, Tryz.ntmps53
  go_wp2_with (first | (simp only [hv]) | fail)
  refine c1.mono ?_
  rintro e_ w1 ⟨rfl, hb⟩
  clear c1 hD
  have r0 := hp1_0 w1 (.cells #[Value.int IntKind.u64 0, Value.nilFunc] 94)
  have hb2 := hb.alloc (by have := hb.size; omega) (.cells #[Value.int IntKind.u64 0, Value.nilFunc] 94)
  have hw := below_setRow (g := w1.heap.size) hb2 (by have := hb.size; omega) #[Value.int IntKind.u64 (v : Int), Value.func (Fn.func (bkn v)) #[] #[]]
  have r1 := setRow_heap _ w1.heap.size _ (#[.int .u64 (v : Int), Value.func (Fn.func (bkn v)) #[] #[]]) _ _ r0
  have szb := hb.size
  clear hb hb2
  generalize bkn v = f at *
  go_wp2_with (first | (refine wpList_store_row rfl 94 _ _ rfl w1.heap.size #[.int .u64 (v : Int), Value.func (Fn.func f) #[] #[]] rfl rfl 94 _ r0 infoR rfl (oneF _ _) ?_) | fail)
  refine (cC.out _ _ (hDh.out _ hw)).mono ?_
  rintro e_ w2 ⟨rfl, hb⟩
  replace r1 := keep hb r1
  replace hw := Below.after hw hb
  clear hb cC r0
  by_cases hok : (!decide (d.length < 4) && decide (cnt d ≤ 1048576)) = true
  ·rw [hok]
   have h4 : ¬ d.length < 4 := by intro h; simp [h] at hok
   have hcn : cnt d ≤ 1048576 := by simp [h4] at hok; exact hok
   rw [if_neg h4]
   have cB := c2.out (cnt d) (by omega)
   by_cases hbk : bkd (dg v) (4 + cnt d) = d.length
   ·rw [hbk] at cB
    have hle : 4 + cnt d ≤ d.length := by have := bkd_ge (dg v) (4 + cnt d) (dg_pos v) (dg_le v); omega
    have hu : upo v d = azr (d.drop (4 + cnt d)) := by
     unfold upo
     rw [hok, hbk, beq_self_eq_true, Bool.true_and, Bool.true_and]
    rw [hu] at eU eR
    have s1 := sl_mid10 ao d.length cap 4 (4 + cnt d) (by omega) (by omega)
    have s2 := sl_rest ao d.length cap (4 + cnt d) hle
    have b1 := hide (fun V (h : Below w.heap.size w V) => bysB_mid10 (hDh.out V h) (show 4 ≤ 4 + cnt d by omega) hle hcap)
    have b2 := hide (fun V (h : Below w.heap.size w V) => bysB_mid10 (hDh.out V h) hle (Nat.le_refl _) hcap)
    rw [show (d.drop 4).take (4 + cnt d - 4) = (d.drop 4).take (cnt d) by congr 1; omega] at b1
    rw [List.take_of_length_le (by rw [List.length_drop]; exact Nat.le_refl _)] at b2
    obtain ⟨o1, k1, e1⟩ := slc_form10 ao cap 4 (4 + cnt d)
    obtain ⟨o2, k2, e2⟩ := slc_form10 ao cap (4 + cnt d) d.length
    rw [e1] at s1 b1
    rw [e2] at s2 b2
    rw [show ((4 + cnt d : Nat) : Int) = 4 + (cnt d : Int) by omega] at s1 s2
    rw [show ((4 : Nat) : Int) = 4 from rfl] at s1
    obtain ⟨Z, hZ⟩ : ∃ z, azr (d.drop (4 + cnt d)) = z := ⟨_, rfl⟩
    have cZ := hide (a_allZero (d.drop (4 + cnt d)))
    rw [hZ] at eU eR cZ
    have cL := hide (a_clone ((d.drop 4).take (cnt d)))
    generalize hP : (d.drop 4).take (cnt d) = P at *
    generalize hT : d.drop (4 + cnt d) = T at *
    clear hZ e1 e2 hP hT hu
    generalize hcc : cnt d = cc at *
    clear hcc hbk
    generalize 4 + cc - 4 = n1 at *
    generalize d.length - (4 + cc) = n2 at *
    go_wp2_with (first | (refine wpList_load_want rfl 94 _ rfl w1.heap.size rfl 94 #[.int .u64 (v : Int), Value.func (Fn.func f) #[] #[]] (0, 0) _ r1 Tryz.underlying94 rfl infoR ?_) | fail)
    refine (cB.at _).mono ?_
    rintro e_ w3 ⟨rfl, hb⟩
    replace hw := Below.after hw hb
    clear hb cB r1
    go_wp2_with (fail)
    have hsn : ∀ p : Regrown, Below w.heap.size w (grow (redrawn w3 p.d) p.os) := fun p => Below.after hw (below_regrown w3 p.d p.os)
    refine wp_region_quiet_below (by kernel_rfl) (by kernel_rfl) ?_
    iterate 10 go_big_quiet_step (fail)
    refine wpQuiet_nil ?_
    rintro _ ⟨p, rfl⟩
    replace hw := hsn p
    clear hsn
    generalize grow (redrawn w3 p.d) p.os = w4 at *
    go_wp2_with (fail)
    refine (cZ.out _ _ (b2.out _ hw)).mono ?_
    rintro e_ w5 ⟨rfl, hb⟩
    replace hw := Below.after hw hb
    clear hb cZ s1 s2
    cases Z
    ·rw [if_neg Bool.false_ne_true] at eU eR
     go_wp2
     go_ret2
     refine ⟨_, by rw [eU.out]; rfl, ?_, hw⟩
     rw [eR.out]
     exact own_none10 _ _
    ·rw [if_pos rfl] at eU eR
     go_wp2_with (fail)
     refine (cL.out _ _ (b1.out _ hw)).mono ?_
     rintro e_ w6 ⟨u, rfl, hO, hb⟩
     have hO' := own_down hO hw.size
     replace hw := Below.after hw hb
     clear hb cL hO
     obtain ⟨ua, uc, rfl⟩ := slen_own hO'
     go_wp2
     go_ret2
     refine ⟨_, by rw [eU.out]; rfl, ?_, hw⟩
     rw [eR.out]
     exact hO'
   ·have hu : upo v d = false := by
     unfold upo
     rw [hok, show (bkd (dg v) (4 + cnt d) == d.length) = false by simpa using hbk, Bool.true_and, Bool.false_and]
    rw [hu, if_neg Bool.false_ne_true] at eU eR
    have hne : ((bkd (dg v) (4 + cnt d) : Int) == (d.length : Int)) = false := by
     rw [beq_eq_false_iff_ne]
     omega
    generalize bkd (dg v) (4 + cnt d) = bb at *
    generalize cnt d = cc at *
    go_wp2_with (first | (refine wpList_load_want rfl 94 _ rfl w1.heap.size rfl 94 #[.int .u64 (v : Int), Value.func (Fn.func f) #[] #[]] (0, 0) _ r1 Tryz.underlying94 rfl infoR ?_) | fail)
    refine (cB.at _).mono ?_
    rintro e_ w3 ⟨rfl, hb⟩
    replace hw := Below.after hw hb
    clear hb cB r1
    go_wp2
    go_ret2
    refine ⟨_, by rw [eU.out]; rfl, ?_, hw⟩
    rw [eR.out]
    exact own_none10 _ _
  ·have hok' := Bool.eq_false_iff.2 hok
   rw [hok']
   have hu : upo v d = false := by unfold upo; rw [hok', Bool.false_and, Bool.false_and]
   rw [hu, if_neg Bool.false_ne_true] at eU eR
   generalize (if d.length < 4 then (0 : Int) else (cnt d : Int)) = z at *
   go_wp2
   go_ret2
   refine ⟨_, by rw [eU.out]; rfl, ?_, hw⟩
   rw [eR.out]
   exact own_none10 _ _
end Go.Proofs.YtjoohgkgkabbpaaGreatDoor
namespace Go.Proofs.YtjoohgkgkabbpaaGreatDoor
set_option maxRecDepth 100000
open Go Go.RowKit Go.Sort
attribute [local go_sem] setCell_drewN alloc_drewN
theorem bit8 (x : Nat) : (BitVec.ofNat 8 x).toNat = x % 256 := by rw [BitVec.toNat_ofNat]
theorem pd4_cnt (d : List B) (h : 4 ≤ d.length) : pd4 (cnt d) = d.take 4 := by
 obtain ⟨a, b, c, e, r, rfl⟩ : ∃ a b c e r, d = a :: b :: c :: e :: r := by
  rcases d with _ | ⟨a, _ | ⟨b, _ | ⟨c, _ | ⟨e, r⟩⟩⟩⟩
  ·simp at h
  ·simp at h
  ·simp at h
  ·simp at h
  ·exact ⟨a, b, c, e, r, rfl⟩
 have ha := a.isLt
 have hb := b.isLt
 have hc := c.isLt
 have he := e.isLt
 have e1 : cnt (a :: b :: c :: e :: r) = a.toNat + b.toNat * 256 + c.toNat * 65536 + e.toNat * 16777216 := by
  simp only [cnt, cnk, gb, Nat.pow_zero, List.getD_cons_zero, List.getD_cons_succ]
  omega
 rw [e1]
 simp only [pd4, List.take_succ_cons, List.take_zero]
 congr 1
 ·apply BitVec.eq_of_toNat_eq; rw [bit8]; omega
 ·congr 1
  ·apply BitVec.eq_of_toNat_eq; rw [bit8]; omega
  ·congr 1
   ·apply BitVec.eq_of_toNat_eq; rw [bit8]; omega
   ·congr 1
    apply BitVec.eq_of_toNat_eq; rw [bit8]; omega
theorem azr_rep (l : List B) : azr l = true ↔ l = List.replicate l.length 0#8 := by
 unfold azr
 rw [List.all_eq_true, List.eq_replicate_iff]
 simp
theorem upo_pad (v : Nat) (d : List B) (hk : known10 v = true) (h4 : ¬ d.length < 4) (hn : cnt d ≤ d.length - 4) :
 (bke v (((d.drop 4).take (cnt d)).length : Int) = 0 ∧ pdr v ((d.drop 4).take (cnt d)) = d) ↔ upo v d = true := by
 have hl : ((d.drop 4).take (cnt d)).length = cnt d := by rw [List.length_take, List.length_drop]; omega
 have hp4 := pd4_cnt d (by omega)
 have hbk : bke v (cnt d : Int) = 0 ↔ cnt d ≤ 1048576 := by
  unfold bke
  rw [hk]
  constructor
  ·intro h
   by_cases q : (1048576 : Int) < (cnt d : Int)
   ·rw [if_pos rfl, if_neg (by omega), if_pos q] at h
    omega
   ·omega
  ·intro h
   rw [if_pos rfl, if_neg (by omega), if_neg (by omega)]
 have hge := bkd_ge (dg v) (4 + cnt d) (dg_pos v) (dg_le v)
 have hd : d = d.take 4 ++ (d.drop 4).take (cnt d) ++ d.drop (4 + cnt d) := by
  rw [List.append_assoc, ← List.drop_drop, List.take_append_drop, List.take_append_drop]
 have hu : upo v d = true ↔ cnt d ≤ 1048576 ∧ bkd (dg v) (4 + cnt d) = d.length ∧ azr (d.drop (4 + cnt d)) = true := by
  unfold upo
  simp only [Bool.and_eq_true, Bool.not_eq_true', decide_eq_false_iff_not, decide_eq_true_eq, beq_iff_eq]
  constructor
  ·rintro ⟨⟨⟨_, h1⟩, h2⟩, h3⟩; exact ⟨h1, h2, h3⟩
  ·rintro ⟨h1, h2, h3⟩; exact ⟨⟨⟨h4, h1⟩, h2⟩, h3⟩
 rw [hl, hbk, hu]
 constructor
 ·rintro ⟨h1, h2⟩
  rw [pdr, hl, if_pos (hbk.2 h1)] at h2
  have h3 : bkd (dg v) (4 + cnt d) = d.length := by
   have := congrArg List.length h2
   rw [pdb_len _ _ (by rw [hl]; exact hge)] at this
   exact this
  refine ⟨h1, h3, ?_⟩
  rw [pdb, hl, hp4] at h2
  have h5 := h2.trans hd
  have h6 := List.append_cancel_left h5
  rw [azr_rep, ← h6, List.length_replicate]
 ·rintro ⟨h1, h2, h3⟩
  refine ⟨h1, ?_⟩
  rw [pdr, hl, if_pos (hbk.2 h1), pdb, hl, hp4]
  conv => rhs; rw [hd]
  congr 1
  rw [azr_rep] at h3
  rw [h3, List.length_drop, h2]
  congr 1
  omega
end Go.Proofs.YtjoohgkgkabbpaaGreatDoor
namespace Go.Proofs.YtjoohgkgkabbpaaGreatDoor
set_option maxRecDepth 100000
open Go Go.RowKit Go.Sort
/-! What was packed is read again; what is read was packed. -/
theorem efs_ech (v : Nat) (nonce hd bd : List B) : ech (efs v nonce hd bd) 0 = 0 := by
 simp [efs, ech, fck, hck, fits, known]
theorem en_le4 {n : Nat} (h : n < 268435456) : (en n).length ≤ 4 := by
 by_cases h1 : n < 128
 ·rw [en_lo h1]; simp
 ·rw [en_hi h1]
  by_cases h2 : n / 128 < 128
  ·rw [en_lo h2]; simp
  ·rw [en_hi h2]
   by_cases h3 : n / 128 / 128 < 128
   ·rw [en_lo h3]; simp
   ·rw [en_hi h3, en_lo (show n / 128 / 128 / 128 < 128 by omega)]; simp
theorem efs_len {v : Nat} {nonce hd bd : List B} (hv : v < 128) (hn : nonce.length = 16) (hh : hd.length = 60) : (ebs (efs v nonce hd bd)).length = 83 + (en bd.length).length + bd.length := by
 have e1 : (fby ⟨1, 0, v, []⟩).length = 2 := by
  unfold fby
  rw [List.length_append, show fhd ⟨1, 0, v, []⟩ = 8 from rfl, en_l1 (by decide), show fvl ⟨1, 0, v, []⟩ = en v from rfl, en_l1 hv]
 have e2 : (fby ⟨2, 2, 0, nonce⟩).length = 18 := by
  unfold fby
  rw [List.length_append, show fhd ⟨2, 2, 0, nonce⟩ = 18 from rfl, en_l1 (by decide), show fvl ⟨2, 2, 0, nonce⟩ = itm nonce from rfl, itm_len, hn, en_l1 (by decide)]
 have e3 : (fby ⟨3, 2, 0, hd⟩).length = 62 := by
  unfold fby
  rw [List.length_append, show fhd ⟨3, 2, 0, hd⟩ = 26 from rfl, en_l1 (by decide), show fvl ⟨3, 2, 0, hd⟩ = itm hd from rfl, itm_len, hh, en_l1 (by decide)]
 have e4 : (fby ⟨4, 2, 0, bd⟩).length = 1 + ((en bd.length).length + bd.length) := by
  unfold fby
  rw [List.length_append, show fhd ⟨4, 2, 0, bd⟩ = 34 from rfl, en_l1 (by decide), show fvl ⟨4, 2, 0, bd⟩ = itm bd from rfl, itm_len]
 unfold efs
 rw [ebs, ebs, ebs, ebs, ebs, List.length_append, List.length_append, List.length_append, List.length_append, e1, e2, e3, e4, List.length_nil]
 omega
theorem mo_le (v : Nat) : mo v ≤ 2097168 := by
 unfold mo
 split <;> decide
theorem efs_eer {v : Nat} {nonce hd bd : List B} (hv : v < 128) (hn : nonce.length = 16) (hh : hd.length = 60) (hb : bd.length ≤ 2097168) : eer (efs v nonce hd bd) = 0 := by
 refine eer_ok.2 ⟨by show 4 ≤ 64; decide, efs_ech _ _ _ _, ?_⟩
 rw [efs_len hv hn hh]
 have := en_le4 (n := bd.length) (by omega)
 omega
theorem efs_fok {v : Nat} {nonce hd bd : List B} (hv : v < 128) (hn : nonce.length = 16) (hh : hd.length = 60) (hb : bd.length ≤ 2097168) : ∀ f ∈ efs v nonce hd bd, Fok f := by
 intro f hf
 simp only [efs, List.mem_cons, List.not_mem_nil, or_false] at hf
 rcases hf with rfl | rfl | rfl | rfl
 ·exact ⟨by show v < _; omega, by show 0 ≤ _; omega, by show (-9223372036854775808 : Int) ≤ 1; decide, by show (1 : Int) ≤ _; decide⟩
 ·exact ⟨by show 0 < _; decide, by show nonce.length ≤ _; omega, by show (-9223372036854775808 : Int) ≤ 2; decide, by show (2 : Int) ≤ _; decide⟩
 ·exact ⟨by show 0 < _; decide, by show hd.length ≤ _; omega, by show (-9223372036854775808 : Int) ≤ 3; decide, by show (3 : Int) ≤ _; decide⟩
 ·exact ⟨by show 0 < _; decide, by show bd.length ≤ _; omega, by show (-9223372036854775808 : Int) ≤ 4; decide, by show (4 : Int) ≤ _; decide⟩
theorem pk_ok {v hl bn : Nat} (h : pk10 v hl bn = none) : hl = 60 ∧ 80 ≤ bn ∧ bn ≤ mo v ∧ bkd (dg v) (bn - 16) = bn - 16 := by
 unfold pk10 at h
 split at h
 ·cases h
 ·split at h
  ·cases h
  ·split at h
   ·exact ⟨by omega, by omega, by omega, by assumption⟩
   ·cases h
theorem pk_of {v hl bn : Nat} (h1 : hl = 60) (h2 : 80 ≤ bn) (h3 : bn ≤ mo v) (h4 : bkd (dg v) (bn - 16) = bn - 16) : pk10 v hl bn = none := by
 unfold pk10
 rw [if_neg (by omega), if_neg (by omega), if_pos h4]
theorem known_lt10 {v : Nat} (h : known10 v = true) : v = 1 ∨ v = 2 := by
 unfold known10 at h
 simpa using h
theorem wth_in {n l m : Int} (h1 : l ≤ n) (h2 : n ≤ m) : wth n l m = 0 := by
 unfold wth
 rw [if_neg (by omega)]
theorem dsl_some {t : Slt} {f : Fd} {a : Int} (h1 : f.no = t.no) (h2 : f.ty = wtK t) (h3 : ftF t f = 0) : dsl t f a = none := by
 unfold dsl rdE
 rw [if_neg (by simp [h1]), if_neg (by simp [h2]), if_pos h3]
theorem efs_dec8 {v : Nat} {nonce hd bd : List B} (hn : nonce.length = 16) (hh : hd.length = 60) (h2 : 80 ≤ bd.length) (h3 : bd.length ≤ mo v) (a : Int) : dcF (esl v) (efs v nonce hd bd) a = none := by
 unfold esl efs
 have q1 : ∀ a, dsl (.mk 1 1 v v []) ⟨1, 0, v, []⟩ a = none := fun a => dsl_some rfl rfl (show wth (v : Int) (v : Int) (v : Int) = 0 from wth_in (Int.le_refl _) (Int.le_refl _))
 have q2 : ∀ a, dsl (.mk 2 5 16 16 []) ⟨2, 2, 0, nonce⟩ a = none := fun a => dsl_some rfl rfl (show wth (nonce.length : Int) 16 16 = 0 by rw [hn]; rfl)
 have q3 : ∀ a, dsl (.mk 3 5 60 60 []) ⟨3, 2, 0, hd⟩ a = none := fun a => dsl_some rfl rfl (show wth (hd.length : Int) 60 60 = 0 by rw [hh]; rfl)
 have q4 : ∀ a, dsl (.mk 4 5 80 (mo v) []) ⟨4, 2, 0, bd⟩ a = none := fun a => dsl_some rfl rfl (show wth (bd.length : Int) 80 (mo v : Int) = 0 from wth_in (by omega) (by omega))
 simp only [dcF, q1, q2, q3, q4]
theorem there10 {v : Nat} {nonce hd bd : List B} (hk : known10 v = true) (hn : nonce.length = 16) (h : pk10 v hd.length bd.length = none) : dfs (dwh (eout (efs v nonce hd bd))) = efs v nonce hd bd ∧ riV (eout (efs v nonce hd bd)) = v ∧ paF (eout (efs v nonce hd bd)) = none ∧ (eout (efs v nonce hd bd)).length = 83 + (en bd.length).length + bd.length ∧ der (dwh (eout (efs v nonce hd bd))) = 0 := by
 obtain ⟨h1, h2, h3, h4⟩ := pk_ok h
 have hv : v < 128 := by rcases known_lt10 hk with rfl | rfl <;> decide
 have hb : bd.length ≤ 2097168 := Nat.le_trans h3 (mo_le v)
 have e0 := efs_eer hv hn h1 hb
 have e1 : eout (efs v nonce hd bd) = ebs (efs v nonce hd bd) := by unfold eout; rw [if_pos e0]
 obtain ⟨d1, d2, d3⟩ := enc_dec e0 (efs_fok hv hn h1 hb)
 rw [e1]
 have hV : riV (ebs (efs v nonce hd bd)) = v := by unfold riV; rw [d3]; rfl
 have hE : riE (ebs (efs v nonce hd bd)) = 0 := by
  unfold riE
  rw [hV, d1, d3, if_neg (by simp), if_neg (by show ¬ (4 = 0 ∨ (1 : Int) ≠ 1); simp), if_neg (by show ¬ (0 : Int) ≠ 0; simp), if_pos hk]
 refine ⟨d3, hV, ?_, efs_len hv hn h1, d1⟩
 unfold paF
 rw [if_neg (by rw [hE]; simp), hV, show dec8 (esl v) (ebs (efs v nonce hd bd)) 0 = none by unfold dec8; rw [d1, d3, if_neg (by simp)]; exact efs_dec8 hn h1 h2 h3 0]
 simp only
 rw [d3, show (gf (efs v nonce hd bd) 3).dat = bd from rfl, if_pos h4]
theorem back10 {d : List B} (h : paF d = none) : ∃ nonce hd bd, known10 (riV d) = true ∧ nonce.length = 16 ∧ dfs (dwh d) = efs (riV d) nonce hd bd ∧ pk10 (riV d) hd.length bd.length = none ∧ eout (efs (riV d) nonce hd bd) = d ∧ der (dwh d) = 0 := by
 unfold paF at h
 split at h
 ·cases h
 ·rename_i hE
  have hk := riE_known (by simpa using hE)
  cases hR : dec8 (esl (riV d)) d 0 with
  | some x => rw [hR] at h; cases h
  | none =>
   rw [hR] at h
   simp only at h
   obtain ⟨d0, nonce, hd, bd, hfs, hn, h60, h80, hmo⟩ := dec_esl hR
   have he := dec_enc d0
   rw [hfs] at h he
   split at h
   ·rename_i h4
    exact ⟨nonce, hd, bd, hk, hn, hfs, pk_of h60 h80 hmo h4, he.2, d0⟩
   ·cases h
/-! Padding. -/
theorem cnt_pd4 (n : Nat) (r : List B) (h : n < 4294967296) : cnt (pd4 n ++ r) = n := by
 have g0 : gb (pd4 n ++ r) 0 = BitVec.ofNat 8 n := rfl
 have g1 : gb (pd4 n ++ r) 1 = BitVec.ofNat 8 (n / 256) := rfl
 have g2 : gb (pd4 n ++ r) 2 = BitVec.ofNat 8 (n / 65536) := rfl
 have g3 : gb (pd4 n ++ r) 3 = BitVec.ofNat 8 (n / 16777216) := rfl
 simp only [cnt, cnk, g0, g1, g2, g3, bit8]
 omega
theorem bke_le {v : Nat} {n : Nat} (h : bke v (n : Int) = 0) : n ≤ 1048576 := by
 have := (bke_ok h).2.2
 omega
theorem pad_back {v : Nat} {d : List B} (hz : bke v (d.length : Int) = 0) : upe v (pdr v d) = 0 ∧ upr v (pdr v d) = d ∧ (pdr v d).length = bkd (dg v) (4 + d.length) := by
 have hk := (bke_ok hz).1
 have hb := bke_le hz
 have hge := bkd_ge (dg v) (4 + d.length) (dg_pos v) (dg_le v)
 have e : pdr v d = pd4 d.length ++ (d ++ List.replicate (bkd (dg v) (4 + d.length) - 4 - d.length) 0#8) := by rw [pdr, if_pos hz, pdb, List.append_assoc]
 have hc : cnt (pdr v d) = d.length := by rw [e]; exact cnt_pd4 _ _ (by omega)
 have hl : (pdr v d).length = bkd (dg v) (4 + d.length) := by rw [pdr, if_pos hz]; exact pdb_len _ _ hge
 have hx : ((pdr v d).drop 4).take (cnt (pdr v d)) = d := by
  rw [hc, e, List.drop_left' (by rfl), List.take_left' rfl]
 have hu : upo v (pdr v d) = true := by
  refine (upo_pad v (pdr v d) hk (by rw [hl]; omega) (by rw [hc, hl]; omega)).1 ?_
  rw [hx]
  exact ⟨hz, rfl⟩
 refine ⟨?_, ?_, hl⟩
 ·unfold upe; rw [if_pos hk, if_pos hu]
 ·unfold upr; rw [hk, hu, Bool.and_self, if_pos rfl]; exact hx
end Go.Proofs.YtjoohgkgkabbpaaGreatDoor
namespace Go.Proofs.YtjoohgkgkabbpaaGreatDoor
set_option maxRecDepth 100000
open Go Go.RowKit Go.Sort
attribute [local go_sem] setCell_drewN alloc_drewN
end Go.Proofs.YtjoohgkgkabbpaaGreatDoor
namespace Go.Proofs.YtjoohgkgkabbpaaGreatDoor
set_option maxRecDepth 100000
open Go Go.RowKit Go.Sort
attribute [local go_sem] setCell_drewN alloc_drewN
end Go.Proofs.YtjoohgkgkabbpaaGreatDoor
namespace Go.Proofs.YtjoohgkgkabbpaaGreatDoor
set_option maxRecDepth 100000
open Go Go.RowKit Go.Sort
attribute [local go_sem] setCell_drewN alloc_drewN
end Go.Proofs.YtjoohgkgkabbpaaGreatDoor

