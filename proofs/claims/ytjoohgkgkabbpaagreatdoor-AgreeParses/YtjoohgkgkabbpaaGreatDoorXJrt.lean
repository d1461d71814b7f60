import Derived.Test.YtjoohgkgkabbpaaGreatDoorXJrs
import Derived.OwnWalk
import Derived.Deep.Cut
import Derived.Deep.RegionHeld3
import Derived.Test.YtjoohgkgkabbpaaGreatDoorXJrh
import Derived.Test.YtjoohgkgkabbpaaGreatDoorProg
import Derived.WalkKit
import Derived.WalkSpells
import Derived.WalkLawsBesides
import Derived.Lib.QuietBelow
import Derived.BigQuiet
import Derived.Test.YtjoohgkgkabbpaaGreatDoorXOpen
import Derived.Test.YtjoohgkgkabbpaaGreatDoorXQa1
import Derived.Laws.BytesArg
import Derived.Deep.Slices
import Derived.Lib.SlBytesConst
namespace Go.Proofs.YtjoohgkgkabbpaaGreatDoor
set_option maxRecDepth 100000
open Go Go.RowKit Go.Sort
attribute [local go_sem] setCell_drewN alloc_drewN
set_option maxRecDepth 100000 in
set_option maxHeartbeats 8000000 in
theorem r_DecodeF {g : Nat} {ts : List Slt} (hfl : ∀ i, i < ts.length → Fla (gs ts i)) (d : List B) (bv : Value) (w : World) (hC : Rdc w g ts) (hB : BysB w bv d) (hcap : ∀ a l c, bv = .slice a l c → l ≤ c) :
 Calls Tryz.prog 33 #[.pointer (some ⟨g, 0, none⟩), bv] w fun e w' => DcE w.heap.size ts d 0 e w' ∧ Below w.heap.size w w' := by
 obtain ⟨u, hg, hS⟩ := hC
 obtain ⟨so, sc, rfl⟩ := hS.form
 generalize hsn : ts.length = sn at *
 replace hsn := hide hsn
 have R6 := hp2_0 w (.cells #[.int .u64 0, .slice none 0 0, .slice none 0 0] 78) (.cells #[.int .i64 0, .int .i64 0, .int .i64 0] 35)
 have R7 := hp2_1 w (.cells #[.int .u64 0, .slice none 0 0, .slice none 0 0] 78) (.cells #[.int .i64 0, .int .i64 0, .int .i64 0] 35)
 have hw : Below w.heap.size w ((w.alloc (.cells #[.int .u64 0, .slice none 0 0, .slice none 0 0] 78)).alloc (.cells #[.int .i64 0, .int .i64 0, .int .i64 0] 35)) := ((Below.refl _ _).alloc (Nat.le_refl _) _).alloc (by simp) _
 have lg := lt_of_row hg
 have l70 := lt_of_row R7
 have cg := hide (cell_of_row _ _ 0 _ _ _ (keep hw hg))
 have cD := hide (r_decodeF (by rw [hsn.out]; exact hfl) d bv 0 ⟨by decide, by decide⟩ ((w.alloc (.cells #[.int .u64 0, .slice none 0 0, .slice none 0 0] 78)).alloc (.cells #[.int .i64 0, .int .i64 0, .int .i64 0] 35)) (hS.keep hw) (hB.keep hw) hcap)
 obtain ⟨ba, bc, rfl⟩ := hB.form
 generalize hdl : d.length = dl at *
 replace hdl := hide hdl
 clear hS hB hcap hg
 go_enter Tryz.func33, Tryz.ntmps33
 go_upto_region 1 with (fail)
 generalize ((w.alloc (.cells #[.int .u64 0, .slice none 0 0, .slice none 0 0] 78)).alloc (.cells #[.int .i64 0, .int .i64 0, .int .i64 0] 35)) = w0 at *
 have cg0 := cg.out
 go_wp2_with (fail)
 refine cD.out.mono ?_
 rintro e_ w1 ⟨hD, hb⟩
 replace R6 := keep hb R6
 replace R7 := keep hb R7
 have szb := hb.size
 replace hw := Below.after hw hb
 clear hb cD cg cg0
 obtain ⟨R, hR⟩ : ∃ R, dec8 ts d 0 = R := ⟨_, rfl⟩
 unfold DcE at hD
 rw [hR] at hD
 cases R with
 | some x =>
  simp only at hD
  subst hD
  unfold frw at *
  replace hR := hide hR
  have oneA : (#[Value.int .u64 0, .slice none 0 0, .slice none 0 0] : Array Value).all (·.oneCell') = true := by simp [Value.oneCell']
  have oneB : (#[Value.int .i64 x.line, .int .i64 x.at_, .int .i64 x.why] : Array Value).all (·.oneCell') = true := by simp [Value.oneCell']
  have R7b := (setRow_other w1 (w.heap.size) (w.heap.size + 1) #[.int .u64 0, .slice none 0 0, .slice none 0 0] (by omega)).trans R7
  go_wp2_with (first | (refine wpList_store_row rfl 78 _ _ rfl (w.heap.size) #[.int .u64 0, .slice none 0 0, .slice none 0 0] rfl rfl 78 _ R6 infoV rfl oneA ?_) | (refine wpList_store_row rfl 35 _ _ rfl (w.heap.size + 1) #[.int .i64 x.line, .int .i64 x.at_, .int .i64 x.why] rfl rfl 35 _ R7b infoFt rfl oneB ?_) | fail)
  clear R7b
  replace R7 := (setRow_other w1 (w.heap.size) (w.heap.size + 1) #[.int .u64 0, .slice none 0 0, .slice none 0 0] (by omega)).trans R7
  replace R6 := setRow_heap w1 (w.heap.size) _ (#[.int .u64 0, .slice none 0 0, .slice none 0 0]) _ _ R6
  replace hw := below_setRow hw (show w.heap.size ≤ w.heap.size by omega) #[.int .u64 0, .slice none 0 0, .slice none 0 0]
  generalize hx3 : w1.setRow (w.heap.size) #[.int .u64 0, .slice none 0 0, .slice none 0 0] = x3 at *
  replace hx3 := hide hx3
  replace R6 := (setRow_other x3 (w.heap.size + 1) (w.heap.size) #[.int .i64 x.line, .int .i64 x.at_, .int .i64 x.why] (by omega)).trans R6
  replace R7 := setRow_heap x3 (w.heap.size + 1) _ (#[.int .i64 x.line, .int .i64 x.at_, .int .i64 x.why]) _ _ R7
  replace hw := below_setRow hw (show w.heap.size ≤ w.heap.size + 1 by omega) #[.int .i64 x.line, .int .i64 x.at_, .int .i64 x.why]
  exact bodyPost_ret (v := .tuple #[.agg #[.int .u64 0, .slice none 0 0, .slice none 0 0], .agg #[.int .i64 x.line, .int .i64 x.at_, .int .i64 x.why]]) (results_cell_cell Tryz.results33 _ _ (w.heap.size) (w.heap.size + 1) _ _ _ _ _ _ _ _ rfl R6 Tryz.underlying78 rfl infoV rfl R7 Tryz.underlying35 rfl infoFt) rfl ⟨by unfold DcE; rw [hR.out]; rfl, hw⟩
 | none =>
  obtain ⟨pv, fv, us, rfl, hO, hF⟩ := hD
  obtain ⟨po, pc, rfl⟩ := own_slice hO
  replace hR := hide hR
  have hmv : ∀ q o, w.heap.size + 1 < q → w1.heap[q]? = some o → ((w1.setRow (w.heap.size) #[.int .u64 0, .slice none 0 0, .slice po (dfs (dwh d)).length pc]).setRow (w.heap.size + 1) #[.int .i64 0, .int .i64 0, .int .i64 0]).heap[q]? = some o := fun q o hq ho => (setRow_other _ (w.heap.size + 1) q #[.int .i64 0, .int .i64 0, .int .i64 0] (by omega)).trans ((setRow_other w1 (w.heap.size) q #[.int .u64 0, .slice none 0 0, .slice po (dfs (dwh d)).length pc] (by omega)).trans ho)
  have hOF := own_down_row (own_move_row hO (fun q o hq ho => hmv q o (by omega) ho)) (show w.heap.size ≤ w0.heap.size by omega)
  have hFF := Fts.down (Fts.move hF (fun q o hq ho => hmv q o (by omega) ho)) (show w.heap.size ≤ w0.heap.size by omega)
  have hfin : Hid (DcE w.heap.size ts d 0 (.returned (.tuple #[.agg #[.int .u64 0, .slice none 0 0, .slice po (dfs (dwh d)).length pc], .agg #[.int .i64 0, .int .i64 0, .int .i64 0]])) ((w1.setRow (w.heap.size) #[.int .u64 0, .slice none 0 0, .slice po (dfs (dwh d)).length pc]).setRow (w.heap.size + 1) #[.int .i64 0, .int .i64 0, .int .i64 0])) := hide (by unfold DcE; rw [hR.out]; exact ⟨_, _, us, rfl, hOF, hFF⟩)
  clear hO hF hmv hOF hFF
  generalize (dfs (dwh d)).length = pn at *
  have oneA : (#[Value.int .u64 0, .slice none 0 0, .slice po pn pc] : Array Value).all (·.oneCell') = true := by simp [Value.oneCell']
  have oneB : (#[Value.int .i64 0, .int .i64 0, .int .i64 0] : Array Value).all (·.oneCell') = true := by simp [Value.oneCell']
  have R7b := (setRow_other w1 (w.heap.size) (w.heap.size + 1) #[.int .u64 0, .slice none 0 0, .slice po pn pc] (by omega)).trans R7
  go_wp2_with (first | (refine wpList_store_row rfl 78 _ _ rfl (w.heap.size) #[.int .u64 0, .slice none 0 0, .slice po pn pc] rfl rfl 78 _ R6 infoV rfl oneA ?_) | (refine wpList_store_row rfl 35 _ _ rfl (w.heap.size + 1) #[.int .i64 0, .int .i64 0, .int .i64 0] rfl rfl 35 _ R7b infoFt rfl oneB ?_) | fail)
  clear R7b
  replace R7 := (setRow_other w1 (w.heap.size) (w.heap.size + 1) #[.int .u64 0, .slice none 0 0, .slice po pn pc] (by omega)).trans R7
  replace R6 := setRow_heap w1 (w.heap.size) _ (#[.int .u64 0, .slice none 0 0, .slice po pn pc]) _ _ R6
  replace hw := below_setRow hw (show w.heap.size ≤ w.heap.size by omega) #[.int .u64 0, .slice none 0 0, .slice po pn pc]
  generalize hx3 : w1.setRow (w.heap.size) #[.int .u64 0, .slice none 0 0, .slice po pn pc] = x3 at *
  replace hx3 := hide hx3
  replace R6 := (setRow_other x3 (w.heap.size + 1) (w.heap.size) #[.int .i64 0, .int .i64 0, .int .i64 0] (by omega)).trans R6
  replace R7 := setRow_heap x3 (w.heap.size + 1) _ (#[.int .i64 0, .int .i64 0, .int .i64 0]) _ _ R7
  replace hw := below_setRow hw (show w.heap.size ≤ w.heap.size + 1 by omega) #[.int .i64 0, .int .i64 0, .int .i64 0]
  exact bodyPost_ret (v := .tuple #[.agg #[.int .u64 0, .slice none 0 0, .slice po pn pc], .agg #[.int .i64 0, .int .i64 0, .int .i64 0]]) (results_cell_cell Tryz.results33 _ _ (w.heap.size) (w.heap.size + 1) _ _ _ _ _ _ _ _ rfl R6 Tryz.underlying78 rfl infoV rfl R7 Tryz.underlying35 rfl infoFt) rfl ⟨hfin.out, hw⟩
end Go.Proofs.YtjoohgkgkabbpaaGreatDoor
namespace Go.Proofs.YtjoohgkgkabbpaaGreatDoor
set_option maxRecDepth 100000
open Go Go.RowKit Go.Sort
attribute [local go_sem] setCell_drewN alloc_drewN
theorem dcF_why : ∀ (ts : List Slt) (fs : List Fd) (a : Int) (x : Flt3), dcF ts fs a = some x → x.why ≠ 0
 | [], [], _, x, h => by cases h
 | [], _ :: _, _, x, h => by cases h; show (81 : Int) ≠ 0; decide
 | _ :: _, [], _, x, h => by cases h; show (81 : Int) ≠ 0; decide
 | t :: ts, f :: fs, a, x, h => by
  rw [dcF] at h
  cases hd : dsl t f a with
  | none => rw [hd] at h; exact dcF_why ts fs _ x h
  | some y =>
   rw [hd] at h
   cases h
   unfold dsl rdE at hd
   split at hd
   ·cases hd; show (81 : Int) ≠ 0; decide
   ·split at hd
    ·cases hd; show (82 : Int) ≠ 0; decide
    ·split at hd
     ·cases hd
     ·rename_i hE
      cases hd
      exact hE
theorem dec8_why {ts : List Slt} {d : List B} {a : Int} {x : Flt3} (h : dec8 ts d a = some x) : x.why ≠ 0 := by
 unfold dec8 at h
 split at h
 ·rename_i hE
  cases h
  exact hE
 ·exact dcF_why _ _ _ _ h
end Go.Proofs.YtjoohgkgkabbpaaGreatDoor
namespace Go.Proofs.YtjoohgkgkabbpaaGreatDoor
set_option maxRecDepth 100000
open Go Go.RowKit Go.Sort
attribute [local go_sem] setCell_drewN alloc_drewN
theorem getD_append_lt (a b : List Int) (j : Nat) (h : j < a.length) : (a ++ b).getD j 0 = a.getD j 0 := by
 rw [List.getD_eq_getElem?_getD, List.getD_eq_getElem?_getD, List.getElem?_append_left h]
theorem elem810 : Tryz.prog.underlying 22 = some (.slice (Tryz.prog.elem 22)) := by kernel_rfl
theorem size810 (W : World) : (sizeOf (Tryz.prog.elem 22)).run Tryz.prog W = .ok 1 W := by kernel_rfl
def BysM (W : World) (v : Value) (bs : List Int) : Prop := Bys W v bs ∧ bs.length ≤ 211106232532992 ∧ (∀ a l c, v = .slice a l c → a = none → c = 0)
theorem BysM.keep {W W' : World} {v : Value} {bs : List Int} (h : BysM W v bs) (hb : Below W.heap.size W W') : BysM W' v bs := ⟨h.1.keep hb, h.2⟩
theorem Bys.of_prefix {W : World} {g : Nat} {l m : List Int} {t : TypeId} (hg : W.heap[g]? = some (.cells (irow .u8 (l ++ m)) t (0, 0))) (hl : l.length ≤ 9223372036854775807) (hz : ∀ z ∈ l, 0 ≤ z ∧ z < 256) (cap : Nat) : Bys W (.slice (some ⟨g, 0, none⟩) l.length cap) l := by
 refine ⟨_, cap, rfl, hl, fun j hj => ⟨g, 0, rfl, lt_of_row hg, ?_⟩, hz⟩
 rw [Nat.zero_add, irow_cell hg (by rw [List.length_append]; omega), getD_append_lt _ _ _ hj]
def mix (a c : List Int) (k : Nat) : List Int := a.take k ++ c.drop k
theorem mix_zero (a c : List Int) : mix a c 0 = c := by simp [mix]
theorem mix_length (a c : List Int) (k : Nat) (h : a.length = c.length) (hk : k ≤ c.length) : (mix a c k).length = c.length := by simp [mix]; omega
theorem mix_set (a c : List Int) (k : Nat) (h : a.length = c.length) (hk : k < c.length) : (mix a c k).set k (a.getD k 0) = mix a c (k + 1) := by
 apply List.ext_getElem?
 intro j
 have h1 : (a.take k).length = k := by simp; omega
 have h2 : (a.take (k + 1)).length = k + 1 := by simp; omega
 unfold mix
 rw [List.getElem?_set]
 by_cases e : k = j
 ·subst e
  rw [if_pos rfl, if_pos (by simp; omega), List.getElem?_append_left (by omega), List.getElem?_take_of_lt (by omega)]
  rw [List.getD_eq_getElem?_getD, List.getElem?_eq_getElem (by omega)]
  rfl
 ·rw [if_neg e]
  by_cases hj : j < k
  ·rw [List.getElem?_append_left (by omega), List.getElem?_append_left (by omega), List.getElem?_take_of_lt hj, List.getElem?_take_of_lt (by omega)]
  ·rw [List.getElem?_append_right (by omega), List.getElem?_append_right (by omega), List.getElem?_drop, List.getElem?_drop, h1, h2]
   congr 1
   omega
theorem Bys.grown {W W' : World} {v : Value} {bs : List Int} {g : Nat} (h : Bys W v bs) (hb : W.grownBy W' (some g)) (hne : ∀ a l c, v = .slice (some a) l c → 0 < l → a.block ≠ g) : Bys W' v bs := by
 obtain ⟨ao, cap, rfl, hl, hc, hz⟩ := h
 refine ⟨ao, cap, rfl, hl, fun j hj => ?_, hz⟩
 obtain ⟨b, off, rfl, h1, h2⟩ := hc j hj
 have hn : b ≠ g := hne ⟨b, off, none⟩ _ _ rfl (by omega)
 exact ⟨b, off, rfl, Nat.lt_of_lt_of_le h1 hb.size, hb.cell h2 (by intro e; injection e with e; exact hn e)⟩
theorem bys_bd {W : World} {v : Value} {bs : List Int} (h : Bys W v bs) : ∀ z ∈ bs, 0 ≤ z ∧ z < 256 := by
 obtain ⟨_, _, _, _, _, h⟩ := h; exact h
def NB (W : World) (v : Value) (bs : List Int) : Prop := Bys W v bs ∧ (∀ a l c, v = .slice a l c → a = none → c = 0)
theorem NB.keep {W W' : World} {v : Value} {bs : List Int} (h : NB W v bs) (hb : Below W.heap.size W W') : NB W' v bs := ⟨h.1.keep hb, h.2⟩
theorem NB.grown {W W' : World} {v : Value} {bs : List Int} {row : Option Nat} (h : NB W v bs) (hb : W.grownBy W' row) (hne : ∀ a l c, v = .slice (some a) l c → 0 < l → row ≠ some a.block) : NB W' v bs := by
 obtain ⟨⟨ao, cap, rfl, hl, hc, hz⟩, hn⟩ := h
 refine ⟨⟨ao, cap, rfl, hl, fun j hj => ?_, hz⟩, hn⟩
 obtain ⟨b, off, rfl, h1, h2⟩ := hc j hj
 have hn' := hne ⟨b, off, none⟩ _ _ rfl (by omega)
 exact ⟨b, off, rfl, Nat.lt_of_lt_of_le h1 hb.size, hb.cell h2 (by intro e; exact hn' e.symm)⟩
theorem slice_to (ao : Option Addr) (len cap n : Nat) (h : n ≤ cap) (W : World) : (Instr.sliceAt 22 (.slice ao len cap) none (some (.int .i64 (n : Int))) none).run Tryz.prog W = .ok (.slice ao n cap) W := by
 rw [run_sliceAt_slice _ _ _ _ _ _ elem810, run_slice_h W 22 ao len cap elem810 .i64 _ (by omega) (by omega), size810]
 show Result.ok (sliced _ _ _ _ 1) W = _
 rw [Int.toNat_natCast, sliced, Nat.zero_mul]
 by_cases e : cap = 0
 ·rw [if_pos e]; rfl
 ·rw [if_neg e]
  cases ao <;> rfl
theorem Bys.take {W : World} {ao : Option Addr} {cap n : Nat} {bs : List Int} (h : Bys W (.slice ao bs.length cap) bs) (hn : n ≤ bs.length) : Bys W (.slice ao n cap) (bs.take n) := by
 obtain ⟨ao', cap', e, hl, hc, hz⟩ := h
 cases e
 have hln : (bs.take n).length = n := by rw [List.length_take]; omega
 refine ⟨ao, cap, by rw [hln], by omega, fun j hj => ?_, fun z h => hz z (List.mem_of_mem_take h)⟩
 obtain ⟨b, off, e, h1, h2⟩ := hc j (by omega)
 refine ⟨b, off, e, h1, ?_⟩
 rw [h2, List.getD_eq_getElem?_getD, List.getD_eq_getElem?_getD, List.getElem?_take_of_lt (by omega)]
theorem conv_bys10 {W : World} {v : Value} {bs : List Int} (h : Bys W v bs) : (convert 22 9 v).run Tryz.prog W = .ok (.string (strOfNums bs)) W := by
 obtain ⟨ao, cap, rfl, _, hc, _⟩ := h
 cases ao with
 | none =>
  have : bs = [] := by
   cases bs with
   | nil => rfl
   | cons x xs => obtain ⟨b, off, e, _⟩ := hc 0 (by simp); cases e
  subst this
  exact run_convert_bytes_nil W 22 5 Tryz.underlying22 Tryz.underlying5 _ _ 9 Tryz.underlying9
 | some ad =>
  rcases Nat.eq_zero_or_pos bs.length with e0 | e0
  ·have : bs = [] := List.eq_nil_of_length_eq_zero e0
   subst this
   obtain ⟨b, off, sp⟩ := ad
   rw [run_convert_bytes_string W 22 9 5 _ _ _ Tryz.underlying22 Tryz.underlying5 Tryz.underlying9]
   have := run_bytesToString (P := Tryz.prog) W ⟨b, off, sp⟩ 0 cap [] (by rfl)
   exact this
  ·obtain ⟨b, off, e, _⟩ := hc 0 e0
   cases e
   exact run_convert_bytes_arg W 22 5 Tryz.underlying22 Tryz.underlying5 b off bs.length cap bs rfl (fun i hi => by
    obtain ⟨b', off', e, _, h⟩ := hc i hi
    cases e
    exact h) 9 Tryz.underlying9
theorem or_cell {W : World} {b g m c t : Nat} {e : TypeId} {l : List Int} (h : W.ownsRow b e 1 (.slice (some ⟨g, 0, none⟩) m c) m (l.map (Value.int .u8))) (ht : t < m) : W.cell? ⟨g, t, none⟩ = some (.int .u8 (l.getD t 0)) ∧ W.frozen? ⟨g, t, none⟩ = false := by
 obtain ⟨q1, ⟨hv, _⟩ | ⟨g1, cap1, cur, hv, hbg, hg, hnc, hcm, hcs, htake⟩⟩ := h
 ·cases hv
 ·cases hv
  rw [List.length_map] at q1
  refine ⟨?_, row_frozen hg t⟩
  rw [cell_of_row _ _ _ _ _ _ hg]
  have h1 : (cur.toList.take (m * 1))[t]? = (l.map (Value.int .u8))[t]? := by rw [htake]
  rw [List.getElem?_take_of_lt (by omega), List.getElem?_map, List.getElem?_eq_getElem (show t < l.length by omega)] at h1
  rw [← Array.getElem?_toList, h1, List.getD_eq_getElem?_getD, List.getElem?_eq_getElem (show t < l.length by omega)]
  rfl
theorem or_set {W : World} {b g m c t : Nat} {e : TypeId} {l : List Int} {z : Int} (h : W.ownsRow b e 1 (.slice (some ⟨g, 0, none⟩) m c) m (l.map (Value.int .u8))) : (W.setCell ⟨g, t, none⟩ (.int .u8 z)).ownsRow b e 1 (.slice (some ⟨g, 0, none⟩) m c) m ((l.set t z).map (Value.int .u8)) ∨ m ≤ t := by
 by_cases ht : m ≤ t
 ·exact .inr ht
 refine .inl ?_
 obtain ⟨q1, ⟨hv, _⟩ | ⟨g1, cap1, cur, hv, hbg, hg, hnc, hcm, hcs, htake⟩⟩ := h
 ·cases hv
 ·cases hv
  refine ⟨by rw [List.length_map, List.length_set]; rw [List.length_map] at q1; exact q1, .inr ⟨g, c, cur.setIfInBounds t (.int .u8 z), rfl, hbg, heap_setCell_same W g t cur _ (.int .u8 z) hg, hnc, hcm, by rw [Array.size_setIfInBounds]; exact hcs, ?_⟩⟩
  rw [Array.toList_setIfInBounds, List.take_set, htake, List.map_set]
theorem or_prefix {W : World} {b g m j c : Nat} {e : TypeId} {xs ys : List Value} (h : W.ownsRow b e 1 (.slice (some ⟨g, 0, none⟩) (m + j) c) (m + j) (xs ++ ys)) (hl : xs.length = m) : W.ownsRow b e 1 (.slice (some ⟨g, 0, none⟩) m c) m xs := by
 obtain ⟨q1, ⟨hv, _⟩ | ⟨g1, cap1, cur, hv, hbg, hg, hnc, hcm, hcs, htake⟩⟩ := h
 ·cases hv
 ·cases hv
  refine ⟨by omega, .inr ⟨g, c, cur, rfl, hbg, hg, by omega, hcm, hcs, ?_⟩⟩
  have h2 := congrArg (List.take m) htake
  rw [List.take_take, List.take_left' hl] at h2
  rw [← h2]
  congr 1
  omega
theorem or_high {W : World} {b g m c : Nat} {e : TypeId} {xs : List Value} (h : W.ownsRow b e 1 (.slice (some ⟨g, 0, none⟩) m c) m xs) : g < W.heap.size ∧ b ≤ g := by
 obtain ⟨q1, ⟨hv, _⟩ | ⟨g1, cap1, cur, hv, hbg, hr, hq⟩⟩ := h
 ·cases hv
 ·cases hv
  exact ⟨lt_of_row hr, hbg⟩
theorem or_other {W : World} {b g g' m c t : Nat} {e : TypeId} {xs : List Value} {v : Value} (h : W.ownsRow b e 1 (.slice (some ⟨g, 0, none⟩) m c) m xs) (hx : g ≠ g') : (W.setCell ⟨g', t, none⟩ v).ownsRow b e 1 (.slice (some ⟨g, 0, none⟩) m c) m xs := by
 obtain ⟨q1, ⟨hv, _⟩ | ⟨g1, cap1, cur, hv, hbg, hr, hq⟩⟩ := h
 ·cases hv
 ·cases hv
  exact ⟨q1, .inr ⟨g, c, cur, rfl, hbg, heap_other hr hx, hq⟩⟩
def ApR (lo : Nat) (W : World) (xs : List (Option Nat × Nat × Nat)) (P : Nat → List Int → Prop) : Prop := ∀ (j g m c : Nat), xs[j]? = some (some g, m, c) → ∃ l : List Int, l.length = m ∧ W.ownsRow lo 5 1 (.slice (some ⟨g, 0, none⟩) m c) m (l.map (Value.int .u8)) ∧ P j l
def ApD (xs : List (Option Nat × Nat × Nat)) : Prop := ∀ (i j : Nat) (g m n c d : Nat), xs[i]? = some (some g, m, c) → xs[j]? = some (some g, n, d) → i = j
theorem ApR.mono {lo : Nat} {W : World} {xs : List (Option Nat × Nat × Nat)} {P Q : Nat → List Int → Prop} (h : ApR lo W xs P) (hq : ∀ (j : Nat) l g m c, xs[j]? = some (some g, m, c) → l.length = m → P j l → Q j l) : ApR lo W xs Q := fun j g m c hj => by
 obtain ⟨l, h1, h2, h3⟩ := h j g m c hj
 exact ⟨l, h1, h2, hq _ _ _ _ _ hj h1 h3⟩
theorem ApR.put {lo : Nat} {W : World} {xs : List (Option Nat × Nat × Nat)} {P Q : Nat → List Int → Prop} (h : ApR lo W xs P) (hd : ApD xs) {k g m c t : Nat} {z : Int} (hk : xs[k]? = some (some g, m, c)) (ht : t < m) (hp : ∀ l, l.length = m → P k l → Q k (l.set t z)) (hq : ∀ j l, j ≠ k → P j l → Q j l) : ApR lo (W.setCell ⟨g, t, none⟩ (.int .u8 z)) xs Q := fun j g' m' c' hj => by
 obtain ⟨l, h1, h2, h3⟩ := h j g' m' c' hj
 by_cases e : g' = g
 ·subst e
  obtain rfl := hd _ _ _ _ _ _ _ hk hj
  obtain ⟨_, rfl, rfl⟩ : True ∧ m = m' ∧ c = c' := ⟨trivial, by rw [hk] at hj; cases hj; exact ⟨rfl, rfl⟩⟩
  refine ⟨l.set t z, by rw [List.length_set]; exact h1, (or_set h2).resolve_right (by omega), hp l h1 h3⟩
 ·refine ⟨l, h1, or_other h2 e, hq j l (fun ej => e ?_) h3⟩
  subst ej
  rw [hk] at hj
  cases hj
  rfl
end Go.Proofs.YtjoohgkgkabbpaaGreatDoor
namespace Go.Proofs.YtjoohgkgkabbpaaGreatDoor
set_option maxRecDepth 100000
open Go Go.RowKit Go.Sort
attribute [local go_sem] setCell_drewN alloc_drewN
theorem mix_all (a c : List Int) (h : a.length = c.length) : mix a c c.length = a := by
 unfold mix
 rw [← h, List.take_length, h, List.drop_length, List.append_nil]
theorem head_bysB {W : World} {g n : Nat} {e : List B} {m : List Int} {t : TypeId} (hg : W.heap[g]? = some (.cells (irow .u8 (bl e ++ m)) t (0, 0))) (hn : e.length = n) (hl : n ≤ 140737488355000) (cap : Nat) : BysB W (.slice (some ⟨g, 0, none⟩) n cap) e := by
 have h := Bys.of_prefix hg (by rw [bl_len]; omega) (bl_bnd e) cap
 rw [bl_len, hn] at h
 exact ⟨h, by omega, fun a l c h h2 => by cases h; cases h2⟩
theorem row_bysB {W : World} {g n : Nat} {e : List B} {t : TypeId} (hg : W.heap[g]? = some (.cells (irow .u8 (bl e)) t (0, 0))) (hn : e.length = n) (hl : n ≤ 140737488355000) (cap : Nat) : BysB W (.slice (some ⟨g, 0, none⟩) n cap) e := head_bysB (m := []) (by rw [List.append_nil]; exact hg) hn hl cap
theorem rv_get (bs : List Int) (k : Nat) (h : k < bs.length) : bs.reverse.getD k 0 = bs.getD (bs.length - 1 - k) 0 := by
 rw [List.getD_eq_getElem?_getD, List.getD_eq_getElem?_getD, List.getElem?_reverse h]
end Go.Proofs.YtjoohgkgkabbpaaGreatDoor

