import Derived.Test.YtjoohgkgkabbpaaGreatDoorProg
import Derived.WalkKit
import Derived.WalkSpells
import Derived.WalkLawsBesides
import Derived.Lib.QuietBelow
import Derived.Laws.BitsAllLaws
import Derived.BigQuiet
import Derived.WalkMore
import Derived.Maps.Own
import Derived.Maps.OwnSet
import Derived.Test.YtjoohgkgkabbpaaGreatDoorUOpen
import Derived.Test.YtjoohgkgkabbpaaGreatDoorUQa1
import Derived.Test.YtjoohgkgkabbpaaGreatDoorUQb3
import Derived.OwnWalk
import Derived.Deep.Cut
import Derived.Deep.RegionHeld3
namespace Go.Proofs.YtjoohgkgkabbpaaGreatDoor
set_option maxRecDepth 100000
open Go Go.RowKit Go.Sort Go.ChangeMaps Go.MapKept
attribute [local go_sem] setCell_drewN alloc_drewN
theorem keyn (n : Nat) (hn : n < 18446744073709551616) : keyOf Tryz.prog 64 (.int .u64 (n : Int)) = some (.int .u64 (n : Int)) := Go.Maps.keyOf_int_mk Tryz.underlying64 (by unfold Lit.wf; simp only [Bool.and_eq_true, decide_eq_true_eq]; exact ⟨Int.natCast_nonneg n, by show (n : Int) ≤ 18446744073709551615; omega⟩)
theorem run_chk (n : Nat) (hn : n < 18446744073709551616) (e : Bool) (w : World) : (Instr.checkKey e 10000 64 (.int .u64 (n : Int))).run Tryz.prog w = .ok () w := (Go.Maps.int_keyed Tryz.underlying64).check w e (keyn n hn)
theorem run_fnd (w : World) (k : Value) (es : List MapEntry) (r : Option (Nat × Value)) (hf : Instr.findNow (.int .u64) k es 0 = some r) : (Instr.findKey 64 k es).run Tryz.prog w = .ok r w := by
 simp [Instr.findKey, run_underlying Tryz.underlying64, hf, Result.andThen]
theorem run_ins (w : World) (b : Nat) (es : Array MapEntry) (c : Nat) (n : Nat) (hn : n < 18446744073709551616) (v : Value) (hb : w.heap[b]? = some (.map es c)) (hf : Instr.findNow (.int .u64) (.int .u64 (n : Int)) es.toList 0 = some none) :
 (Instr.mapUpdate 142 (.map (some b)) (.int .u64 (n : Int)) v).run Tryz.prog w = .ok () (setBlock w b (.map (es.push { key := .int .u64 (n : Int), val := v, born := c }) (c + 1))) := by
 simp [Instr.mapUpdate, run_underlying Tryz.underlying142, MapKept.run_getObj_map hb, run_chk n hn, run_fnd w _ _ _ hf, MapKept.run_setObj_map _ hb, Result.andThen, setBlock]
theorem run_lookS (w : World) (b : Nat) (es : Array MapEntry) (c : Nat) (n : Nat) (hn : n < 18446744073709551616) (i : Nat) (v : Value) (hb : w.heap[b]? = some (.map es c)) (hf : Instr.findNow (.int .u64) (.int .u64 (n : Int)) es.toList 0 = some (some (i, v))) :
 (Instr.lookup 142 (.map (some b)) (.int .u64 (n : Int)) true).run Tryz.prog w = .ok (.tuple #[v, .bool true]) w := by
 simp [Instr.lookup, run_underlying Tryz.underlying142, MapKept.run_getObj_map hb, run_chk n hn, run_fnd w _ _ _ hf, Result.andThen]
theorem run_lookN (w : World) (b : Nat) (es : Array MapEntry) (c : Nat) (n : Nat) (hn : n < 18446744073709551616) (hb : w.heap[b]? = some (.map es c)) (hf : Instr.findNow (.int .u64) (.int .u64 (n : Int)) es.toList 0 = some none) :
 (Instr.lookup 142 (.map (some b)) (.int .u64 (n : Int)) true).run Tryz.prog w = .ok (.tuple #[.nilFunc, .bool false]) w := by
 simp [Instr.lookup, run_underlying Tryz.underlying142, MapKept.run_getObj_map hb, run_chk n hn, run_fnd w _ _ _ hf, Result.andThen]
theorem below_setBlock {w W : World} {g b : Nat} (o : Obj) (h : Below g w W) (hb : g ≤ b) : Below g w (setBlock W b o) := by
 refine ⟨h.os, h.tape, h.output, ?_, fun k hk => ?_⟩
 ·have := h.size
  simpa [setBlock] using this
 ·rw [← h.block k hk]
  simp only [setBlock]
  exact Array.getElem?_setIfInBounds_ne (by omega)
theorem setBlock_at {W : World} {b : Nat} {o : Obj} (h : b < W.heap.size) : (setBlock W b o).heap[b]? = some o := by
 simp [setBlock, h]
theorem setBlock_ne {W : World} {b k : Nat} {o : Obj} (h : b ≠ k) : (setBlock W b o).heap[k]? = W.heap[k]? := by
 simp only [setBlock]
 exact Array.getElem?_setIfInBounds_ne h
def bkf (n : Nat) : Value := if n = 1 then .func (.func 71) #[] #[] else if n = 2 then .func (.func 72) #[] #[] else .nilFunc
def known10 (n : Nat) : Bool := n == 1 || n == 2
def es1 : Array MapEntry := #[{ key := .int .u64 ((1 : Nat) : Int), val := .func (.func 71) #[] #[], born := 0 }]
def es2 : Array MapEntry := es1.push { key := .int .u64 ((2 : Nat) : Int), val := .func (.func 72) #[] #[], born := 1 }
theorem run_two (n : Nat) (hn : n < 18446744073709551616) (w : World) (b c : Nat) (hb : w.heap[b]? = some (.map es2 c)) : (Instr.lookup 142 (.map (some b)) (.int .u64 (n : Int)) true).run Tryz.prog w = .ok (.tuple #[bkf n, .bool (known10 n)]) w := by
 rcases Nat.decEq n 1 with h1 | rfl
 ·rcases Nat.decEq n 2 with h2 | rfl
  ·rw [run_lookN w b es2 c n hn hb]
   ·simp [bkf, known10, h1, h2]
   ·have e1 : ((n : Int) == ((1 : Nat) : Int)) = false := by simp; omega
    have e2 : ((n : Int) == ((2 : Nat) : Int)) = false := by simp; omega
    simp only [es2, es1, Array.toList_push, Instr.findNow, Instr.sameNow, List.cons_append, List.nil_append, e1, e2, if_true]
  ·exact run_lookS w b es2 c 2 hn 1 _ hb rfl
 ·exact run_lookS w b es2 c 1 hn 0 _ hb rfl
theorem results_cell_slot {P : Program} {fn : Func} {p q : Tmp} {ty : TypeId} (h : fn.results = #[.cell p ty, .tmp q]) (tmps : Array Value) (w : World) (g : Nat) (t : TypeId) (cs : Array Value) (fr : Nat × Nat) (d : TypeDesc)
 (hp : tmps.getD p undef = .pointer (some ⟨g, 0, none⟩)) (hg : w.heap[g]? = some (.cells cs t fr))
 (hu : P.underlying ty = some d) (hd : (match d with | .struct _ | .array _ _ => true | _ => false) = true) (hi : (P.info? ty).map (·.size) = some cs.size) :
 (results fn tmps).run P w = .ok (.tuple #[.agg cs, tmps.getD q undef]) w := by
 have hp' : tmps[p]?.getD undef = .pointer (some ⟨g, 0, none⟩) := by simpa using hp
 simp [results, h, hp', asAddr, run_loadVar_row w g t ty cs fr d hg hu hd hi]
theorem infoR : (Tryz.prog.info? 94).map (·.size) = some 2 := by kernel_rfl
set_option maxRecDepth 100000 in
set_option maxHeartbeats 4000000 in
theorem a_rulesOf (n : Nat) (hn : n < 18446744073709551616) (w : World) : Calls Tryz.prog 40 #[.int .u64 (n : Int)] w fun e w' => e = .returned (.tuple #[.agg #[.int .u64 (n : Int), bkf n], .bool (known10 n)]) ∧ Below w.heap.size w w' := by
 have hmm := @run_makeMap Tryz.prog
 have s1 : ((w.alloc (Obj.cells #[Value.int IntKind.u64 0, Value.nilFunc] 94)).alloc (Obj.map #[] 0)).heap.size = w.heap.size + 1 + 1 := by simp
 have h0 : ((w.alloc (Obj.cells #[Value.int IntKind.u64 0, Value.nilFunc] 94)).alloc (Obj.map #[] 0)).heap[w.heap.size]? = some (.cells #[Value.int IntKind.u64 0, Value.nilFunc] 94 (0, 0)) := hp2_0 w _ _
 have h1 : ((w.alloc (Obj.cells #[Value.int IntKind.u64 0, Value.nilFunc] 94)).alloc (Obj.map #[] 0)).heap[w.heap.size + 1]? = some (.map #[] 0) := hp2_1 w _ _
 have hB : Below w.heap.size w ((w.alloc (Obj.cells #[Value.int IntKind.u64 0, Value.nilFunc] 94)).alloc (Obj.map #[] 0)) := .alloc (.alloc (Below.refl _ _) (Nat.le_refl _) _) (by simp) _
 have r1 : (Instr.mapUpdate 142 (.map (some (w.heap.size + 1))) (.int .u64 1) (.func (.func 71) #[] #[])).run Tryz.prog ((w.alloc (Obj.cells #[Value.int IntKind.u64 0, Value.nilFunc] 94)).alloc (Obj.map #[] 0)) = .ok () (setBlock ((w.alloc (Obj.cells #[Value.int IntKind.u64 0, Value.nilFunc] 94)).alloc (Obj.map #[] 0)) (w.heap.size + 1) (.map es1 1)) := run_ins _ (w.heap.size + 1) _ _ 1 (by decide) (.func (.func 71) #[] #[]) h1 rfl
 generalize hw1 : ((w.alloc (Obj.cells #[Value.int IntKind.u64 0, Value.nilFunc] 94)).alloc (Obj.map #[] 0)) = w1 at *
 have h2 := setBlock_at (W := w1) (b := w.heap.size + 1) (o := .map es1 1) (by omega)
 have h3 := (setBlock_ne (W := w1) (b := w.heap.size + 1) (k := w.heap.size) (o := .map es1 1) (by omega)).trans h0
 have s2 : (setBlock w1 (w.heap.size + 1) (.map es1 1)).heap.size = w.heap.size + 1 + 1 := by simpa [setBlock] using s1
 replace hB := below_setBlock (b := w.heap.size + 1) (.map es1 1) hB (by omega)
 generalize setBlock w1 (w.heap.size + 1) (.map es1 1) = w2 at *
 have r2 : (Instr.mapUpdate 142 (.map (some (w.heap.size + 1))) (.int .u64 2) (.func (.func 72) #[] #[])).run Tryz.prog w2 = .ok () (setBlock w2 (w.heap.size + 1) (.map es2 2)) := run_ins w2 (w.heap.size + 1) _ _ 2 (by decide) (.func (.func 72) #[] #[]) h2 rfl
 have h4 := setBlock_at (W := w2) (b := w.heap.size + 1) (o := .map es2 2) (by omega)
 have h5 := (setBlock_ne (W := w2) (b := w.heap.size + 1) (k := w.heap.size) (o := .map es2 2) (by omega)).trans h3
 replace hB := below_setBlock (b := w.heap.size + 1) (.map es2 2) hB (by omega)
 generalize setBlock w2 (w.heap.size + 1) (.map es2 2) = w3 at *
 have r3 := run_two n hn w3 _ _ h4
 have hF : ∀ k, (#[Value.int IntKind.u64 (n : Int), Value.func (Fn.func k) #[] #[]] : Array Value).all (·.oneCell') = true := fun k => by simp [Value.oneCell']
 have hN : (#[Value.int IntKind.u64 (n : Int), Value.nilFunc] : Array Value).all (·.oneCell') = true := by simp [Value.oneCell']
 have c0 : w3.cell? ⟨w.heap.size, 0, none⟩ = some (.int .u64 0) := by rw [cell_of_row _ _ _ _ _ _ h5]; rfl
 have c1 : w3.cell? ⟨w.heap.size, 1, none⟩ = some .nilFunc := by rw [cell_of_row _ _ _ _ _ _ h5]; rfl
 have f0 := row_frozen h5 0
 have f1 := row_frozen h5 1
 subst hw1
 clear h0 h1 h2 h3 s1 s2 h4
 obtain ⟨k, hu⟩ | hu : (∃ k, bkf n = .func (.func k) #[] #[]) ∨ bkf n = .nilFunc := by
  unfold bkf
  split
  ·exact .inl ⟨_, rfl⟩
  ·split
   ·exact .inl ⟨_, rfl⟩
   ·exact .inr rfl
 ·rw [hu] at r3 ⊢
  clear hu
  have r6 := setRow_heap w3 w.heap.size _ (#[.int .u64 (n : Int), (Value.func (Fn.func k) #[] #[])]) _ _ h5
  go_enter Tryz.func40, Tryz.ntmps40
  go_wp2_with (first | (refine wpList_store_row rfl 94 _ _ rfl w.heap.size #[.int .u64 (n : Int), (Value.func (Fn.func k) #[] #[])] rfl rfl 94 _ h5 infoR rfl (hF k) ?_) | fail)
  exact bodyPost_ret (v := .tuple #[.agg #[.int .u64 (n : Int), (Value.func (Fn.func k) #[] #[])], .bool (known10 n)]) (results_cell_slot Tryz.results40 _ _ w.heap.size _ _ _ _ rfl r6 Tryz.underlying94 rfl infoR) rfl ⟨rfl, below_setRow hB (Nat.le_refl _) _⟩
 ·rw [hu] at r3 ⊢
  clear hu
  have r6 := setRow_heap w3 w.heap.size _ (#[.int .u64 (n : Int), Value.nilFunc]) _ _ h5
  go_enter Tryz.func40, Tryz.ntmps40
  go_wp2_with (first | (refine wpList_store_row rfl 94 _ _ rfl w.heap.size #[.int .u64 (n : Int), Value.nilFunc] rfl rfl 94 _ h5 infoR rfl hN ?_) | fail)
  exact bodyPost_ret (v := .tuple #[.agg #[.int .u64 (n : Int), Value.nilFunc], .bool (known10 n)]) (results_cell_slot Tryz.results40 _ _ w.heap.size _ _ _ _ rfl r6 Tryz.underlying94 rfl infoR) rfl ⟨rfl, below_setRow hB (Nat.le_refl _) _⟩
end Go.Proofs.YtjoohgkgkabbpaaGreatDoor
namespace Go.Proofs.YtjoohgkgkabbpaaGreatDoor
set_option maxRecDepth 100000
def Bkt (lo b : Nat) : Prop := 64 ≤ b ∧ ∃ m j, b = m * 2 ^ j ∧ lo ≤ m ∧ m < 2 * lo
def stp (d l : Nat) : Nat := 2 ^ (l - d)
def rup (r s : Nat) : Nat := (r + s - 1) / s * s
theorem rup_mul {r s m : Nat} (hs : 0 < s) (h : r ≤ m * s) : rup r s ≤ m * s := by
 unfold rup
 refine Nat.mul_le_mul_right _ ?_
 rw [← Nat.lt_succ_iff, Nat.div_lt_iff_lt_mul hs, Nat.succ_mul]
 omega
theorem rup_ge {r s : Nat} (hs : 0 < s) : r ≤ rup r s := by
 unfold rup
 have h1 := Nat.div_add_mod (r + s - 1) s
 have h2 := Nat.mod_lt (r + s - 1) hs
 rw [Nat.mul_comm] at h1
 omega
theorem rup_dvd (r s : Nat) : ∃ m, rup r s = m * s := ⟨_, rfl⟩
theorem rup_bkt {d l r : Nat} (hd : 0 < d) (hl : d ≤ l) (h64 : 64 ≤ r) (h1 : 2 ^ (l - 1) ≤ r) (h2 : r < 2 ^ l) : Bkt (2 ^ (d - 1)) (rup r (stp d l)) := by
 have hs : 0 < stp d l := Nat.pow_pos (by decide)
 have hge := rup_ge (r := r) hs
 refine ⟨Nat.le_trans h64 hge, ?_⟩
 have e1 : 2 ^ (l - 1) = 2 ^ (d - 1) * stp d l := by unfold stp; rw [← Nat.pow_add]; congr 1; omega
 have e2 : 2 ^ l = 2 * 2 ^ (d - 1) * stp d l := by unfold stp; rw [← Nat.pow_succ', ← Nat.pow_add]; congr 1; omega
 obtain ⟨m, hm⟩ := rup_dvd r (stp d l)
 have hle : rup r (stp d l) ≤ 2 * 2 ^ (d - 1) * stp d l := rup_mul hs (by omega)
 have m1 : 2 ^ (d - 1) ≤ m := by
  refine Nat.le_of_mul_le_mul_right ?_ hs
  omega
 have m2 : m ≤ 2 * 2 ^ (d - 1) := by
  refine Nat.le_of_mul_le_mul_right ?_ hs
  omega
 rcases Nat.lt_or_ge m (2 * 2 ^ (d - 1)) with q | q
 ·exact ⟨m, l - d, hm, m1, q⟩
 ·obtain rfl : m = 2 * 2 ^ (d - 1) := by omega
  refine ⟨2 ^ (d - 1), l - d + 1, ?_, Nat.le_refl _, ?_⟩
  ·rw [hm]; unfold stp; rw [Nat.pow_succ]
   generalize 2 ^ (d - 1) = x
   generalize 2 ^ (l - d) = y
   rw [Nat.mul_comm 2 x, Nat.mul_assoc, Nat.mul_comm 2 y]
  ·have := Nat.pow_pos (n := d - 1) (show 0 < 2 by decide); omega
theorem rup_least {d l r b : Nat} (hd : 0 < d) (hl : d ≤ l) (h1 : 2 ^ (l - 1) ≤ r) (hb : Bkt (2 ^ (d - 1)) b) (h : r ≤ b) : rup r (stp d l) ≤ b := by
 obtain ⟨_, m, j, rfl, m1, m2⟩ := hb
 have hs : 0 < stp d l := Nat.pow_pos (by decide)
 rcases Nat.lt_or_ge j (l - d) with q | q
 ·exfalso
  have e2 : 2 * 2 ^ (d - 1) * 2 ^ j = 2 ^ (d + j) := by rw [← Nat.pow_succ', ← Nat.pow_add]; congr 1; omega
  have h3 : m * 2 ^ j < 2 * 2 ^ (d - 1) * 2 ^ j := Nat.mul_lt_mul_of_pos_right m2 (Nat.pow_pos (by decide))
  have h4 : 2 ^ (d + j) ≤ 2 ^ (l - 1) := Nat.pow_le_pow_right (by decide) (by omega)
  omega
 ·have e : m * 2 ^ j = m * 2 ^ (j - (l - d)) * stp d l := by
   unfold stp
   rw [Nat.mul_assoc, ← Nat.pow_add]; congr 2; omega
  rw [e] at h ⊢
  exact rup_mul hs h
theorem bkt_one {lo n a b : Nat} (ha : Bkt lo a ∧ n ≤ a) (hb : Bkt lo b ∧ n ≤ b) (la : ∀ c, Bkt lo c → n ≤ c → a ≤ c) (lb : ∀ c, Bkt lo c → n ≤ c → b ≤ c) : a = b := by
 have := la b hb.1 hb.2
 have := lb a ha.1 ha.2
 omega
def Lst (lo n b : Nat) : Prop := Bkt lo b ∧ n ≤ b ∧ ∀ c, Bkt lo c → n ≤ c → b ≤ c
theorem Lst.one {lo n a b : Nat} (ha : Lst lo n a) (hb : Lst lo n b) : a = b := bkt_one ⟨ha.1, ha.2.1⟩ ⟨hb.1, hb.2.1⟩ ha.2.2 hb.2.2
theorem lst_rup {d l n : Nat} (hd : 0 < d) (hl : d ≤ l) (h1 : 2 ^ (l - 1) ≤ max n 64) (h2 : max n 64 < 2 ^ l) : Lst (2 ^ (d - 1)) n (rup (max n 64) (stp d l)) := by
 have hs : 0 < stp d l := Nat.pow_pos (by decide)
 have hge := rup_ge (r := max n 64) hs
 refine ⟨rup_bkt hd hl (Nat.le_max_right _ _) h1 h2, by have := Nat.le_max_left n 64; omega, fun c hc hn => rup_least hd hl h1 hc ?_⟩
 have := hc.1
 exact Nat.max_le.2 ⟨hn, this⟩
def bkd (d n : Nat) : Nat := rup (max n 64) (stp d (Nat.log2 (max n 64) + 1))
theorem log_ge (n : Nat) : 6 ≤ Nat.log2 (max n 64) := by
 rw [Nat.le_log2 (by have := Nat.le_max_right n 64; omega)]
 exact Nat.le_max_right n 64
theorem bkd_lst (d n : Nat) (hd : 0 < d) (h7 : d ≤ 7) : Lst (2 ^ (d - 1)) n (bkd d n) := by
 have h := log_ge n
 refine lst_rup hd (by omega) ?_ Nat.lt_log2_self
 exact Nat.log2_self_le (by have := Nat.le_max_right n 64; omega)
theorem bkd_of (d l n : Nat) (hd : 0 < d) (hl : d ≤ l) (h1 : 2 ^ (l - 1) ≤ max n 64) (h2 : max n 64 < 2 ^ l) (h7 : d ≤ 7) : rup (max n 64) (stp d l) = bkd d n := (lst_rup hd hl h1 h2).one (bkd_lst d n hd h7)
theorem rup_le (r s : Nat) : rup r s ≤ r + s := by
 unfold rup
 have := Nat.div_mul_le_self (r + s - 1) s
 omega
theorem bkd_le (d n : Nat) (hd : 0 < d) : bkd d n ≤ 2 * max n 64 := by
 unfold bkd
 have h1 := rup_le (max n 64) (stp d (Nat.log2 (max n 64) + 1))
 have h2 : stp d (Nat.log2 (max n 64) + 1) ≤ max n 64 := by
  refine Nat.le_trans (Nat.pow_le_pow_right (by decide) ?_) (Nat.log2_self_le (by have := Nat.le_max_right n 64; omega))
  omega
 omega
theorem bkd_64 (d n : Nat) (hd : 0 < d) (h7 : d ≤ 7) : 64 ≤ bkd d n := (bkd_lst d n hd h7).1.1
theorem bkd_ge (d n : Nat) (hd : 0 < d) (h7 : d ≤ 7) : n ≤ bkd d n := (bkd_lst d n hd h7).2.1
def dg (v : Nat) : Nat := if v = 1 then 1 else 4
theorem dg_pos (v : Nat) : 0 < dg v := by unfold dg; split <;> decide
theorem dg_le (v : Nat) : dg v ≤ 7 := by unfold dg; split <;> decide
end Go.Proofs.YtjoohgkgkabbpaaGreatDoor
namespace Go.Proofs.YtjoohgkgkabbpaaGreatDoor
set_option maxRecDepth 100000
open Go Go.RowKit Go.Sort
attribute [local go_sem] setCell_drewN alloc_drewN
set_option maxRecDepth 100000 in
set_option maxHeartbeats 4000000 in
theorem a_len (x : Nat) (h0 : 1 ≤ x) (hx : x < 18446744073709551616) : ∃ L : Nat, 0 < L ∧ L ≤ 64 ∧ 2 ^ (L - 1) ≤ x ∧ x < 2 ^ L ∧ Gives 124 #[.int .u64 (x : Int)] (.int .i64 (L : Int)) := by
 obtain ⟨L, g0, g1, g2, g3, g4⟩ := a_len64 x h0 hx
 refine ⟨L, g0, g1, g2, g3, fun w => ?_⟩
 clear g2 g3
 go_enter Tryz.func124, Tryz.ntmps124
 go_wp2_with (fail)
 refine (g4.at _).mono ?_
 rintro e_ w1 ⟨rfl, hb⟩
 go_wp2
 go_ret
 exact ⟨rfl, hb⟩
theorem kw (L d k : Nat) (hk : stp d L = k) : (2 : Int) ^ (L - d) = (k : Int) := by rw [← hk, stp, Int.natCast_pow]; rfl
theorem kr (L d k : Nat) (hk : stp d L = k) (hk1 : k ≤ 1152921504606846976) : wrap64 ((2 : Int) ^ (L - d)) = (k : Int) := by
 rw [kw L d k hk]; exact IntWalk.wrap64_in _ ⟨by omega, by omega⟩
theorem stp_le {L d : Nat} (h : L - d ≤ 60) : stp d L ≤ 1152921504606846976 := Nat.le_trans (Nat.pow_le_pow_right (by decide) h) (by decide)
theorem rup_wrap (r k : Nat) (hr : r ≤ 1152921504606846976) (hk1 : k ≤ 1152921504606846976) : wrap64 (wrap64 (((r + k - 1) / k : Nat) : Int) * (k : Int)) = (rup r k : Int) := by
 have h1 : (r + k - 1) / k ≤ r + k - 1 := Nat.div_le_self _ _
 have h2 := Nat.div_mul_le_self (r + k - 1) k
 unfold rup
 generalize (r + k - 1) / k = q at *
 rw [IntWalk.wrap64_in (q : Int) ⟨by omega, by omega⟩, ← Int.natCast_mul]
 exact IntWalk.wrap64_in _ ⟨by omega, by omega⟩
theorem len_bd {L r : Nat} (h64 : 64 ≤ r) (hr : r ≤ 1152921504606846976) (g2 : 2 ^ (L - 1) ≤ r) (g3 : r < 2 ^ L) : 7 ≤ L ∧ L ≤ 61 := by
 constructor
 ·rcases Nat.lt_or_ge L 7 with q | q
  ·exfalso
   have : 2 ^ L ≤ 2 ^ 6 := Nat.pow_le_pow_right (by decide) (by omega)
   have : (2 : Nat) ^ 6 = 64 := by decide
   omega
  ·exact q
 ·rcases Nat.lt_or_ge 61 L with q | q
  ·exfalso
   have h : 2 ^ 61 ≤ 2 ^ (L - 1) := Nat.pow_le_pow_right (by decide) (by omega)
   have h' : (2 : Nat) ^ 61 ≤ 1152921504606846976 := Nat.le_trans h (Nat.le_trans g2 hr)
   exact absurd h' (by decide)
  ·exact q
set_option maxRecDepth 100000 in
set_option maxHeartbeats 4000000 in
theorem a_roundUp (d n : Nat) (hd : 0 < d) (h7 : d ≤ 7) (hn : n ≤ 1152921504606846976) : Gives 101 #[.int .i64 (n : Int), .int .i64 (d : Int)] (.int .i64 (bkd d n : Int)) := by
 intro w
 have hm : (64 : Nat) ≤ max n 64 := Nat.le_max_right n 64
 have hm2 : max n 64 ≤ 1152921504606846976 := Nat.max_le.2 ⟨hn, by decide⟩
 obtain ⟨L, g0, g1, g2, g3, g4⟩ := a_len (max n 64) (by omega) (by omega)
 obtain ⟨hL, hL2⟩ := len_bd hm hm2 g2 g3
 have key := bkd_of d L n hd (by omega) g2 g3 h7
 obtain ⟨k, hk⟩ : ∃ k, stp d L = k := ⟨_, rfl⟩
 have hk1 : k ≤ 1152921504606846976 := by rw [← hk]; exact stp_le (by omega)
 have hk0 : 0 < k := by rw [← hk]; exact Nat.pow_pos (by decide)
 have hwr := kr L d k hk hk1
 rw [hk] at key
 clear g2 g3 hm hm2 hk
 have hz : ¬ (k : Int) = 0 := by omega
 rcases Nat.lt_or_ge n 64 with q | q
 ·rw [Nat.max_eq_right (by omega)] at g4 key
  replace g4 : Gives 124 #[.int .u64 64] (.int .i64 (L : Int)) := g4
  have hq : ¬ (64 : Int) ≤ (n : Int) := by omega
  have fin := rup_wrap 64 k (by decide) hk1
  obtain ⟨z, hz2⟩ : ∃ z : Int, (((64 + k - 1) / k : Nat) : Int) = z := ⟨_, rfl⟩
  have hdv : ((64 : Int) + (k : Int) - 1).tdiv (k : Int) = z := by
   rw [← hz2, Int.tdiv_eq_ediv_of_nonneg (by omega), Int.natCast_ediv]
   congr 1
   omega
  rw [key, hz2] at fin
  clear key hz2 hd
  go_enter Tryz.func101, Tryz.ntmps101
  go_wp2_with (fail)
  ·refine (g4.at _).mono ?_
   rintro e_ w1 ⟨rfl, hb⟩
   go_wp2
   go_ret
   exact ⟨by rw [fin]; rfl, hb⟩
 ·rw [Nat.max_eq_left (by omega)] at g4 key
  have hq : (64 : Int) ≤ (n : Int) := by omega
  have fin := rup_wrap n k hn hk1
  obtain ⟨z, hz2⟩ : ∃ z : Int, (((n + k - 1) / k : Nat) : Int) = z := ⟨_, rfl⟩
  have hdv : ((n : Int) + (k : Int) - 1).tdiv (k : Int) = z := by
   rw [← hz2, Int.tdiv_eq_ediv_of_nonneg (by omega), Int.natCast_ediv]
   congr 1
   omega
  rw [key, hz2] at fin
  clear key hz2 hd
  go_enter Tryz.func101, Tryz.ntmps101
  go_wp2_with (fail)
  ·refine (g4.at _).mono ?_
   rintro e_ w1 ⟨rfl, hb⟩
   go_wp2
   go_ret
   exact ⟨by rw [fin]; rfl, hb⟩
set_option maxRecDepth 100000 in
set_option maxHeartbeats 4000000 in
theorem a_powers (n : Nat) (hn : n ≤ 1152921504606846976) : Gives 71 #[.int .i64 (n : Int)] (.int .i64 (bkd 1 n : Int)) := by
 intro w
 have g4 : Gives 101 #[.int .i64 (n : Int), .int .i64 1] (.int .i64 (bkd 1 n : Int)) := a_roundUp 1 n (by decide) (by decide) hn
 generalize bkd 1 n = b at *
 go_enter Tryz.func71, Tryz.ntmps71
 go_wp2_with (fail)
 refine (g4.at _).mono ?_
 rintro e_ w1 ⟨rfl, hb⟩
 go_wp2
 go_ret
 exact ⟨rfl, hb⟩
set_option maxRecDepth 100000 in
set_option maxHeartbeats 4000000 in
theorem a_eighths (n : Nat) (hn : n ≤ 1152921504606846976) : Gives 72 #[.int .i64 (n : Int)] (.int .i64 (bkd 4 n : Int)) := by
 intro w
 have g4 : Gives 101 #[.int .i64 (n : Int), .int .i64 4] (.int .i64 (bkd 4 n : Int)) := a_roundUp 4 n (by decide) (by decide) hn
 generalize bkd 4 n = b at *
 go_enter Tryz.func72, Tryz.ntmps72
 go_wp2_with (fail)
 refine (g4.at _).mono ?_
 rintro e_ w1 ⟨rfl, hb⟩
 go_wp2
 go_ret
 exact ⟨rfl, hb⟩
def bkn (v : Nat) : FuncId := if v = 1 then 71 else 72
theorem bkf_known {v : Nat} (h : known10 v = true) : bkf v = .func (.func (bkn v)) #[] #[] := by
 unfold known10 at h
 unfold bkf bkn
 rcases Nat.decEq v 1 with h1 | rfl
 ·rcases Nat.decEq v 2 with h2 | rfl
  ·simp [h1, h2] at h
  ·rfl
 ·rfl
theorem a_bkn (v n : Nat) (hn : n ≤ 1152921504606846976) : Gives (bkn v) #[.int .i64 (n : Int)] (.int .i64 (bkd (dg v) n : Int)) := by
 unfold bkn dg
 split
 ·exact a_powers n hn
 ·exact a_eighths n hn
set_option maxRecDepth 100000 in
set_option maxHeartbeats 4000000 in
theorem a_bucketOf (v n : Nat) (h : known10 v = true) (hn : n ≤ 1152921504606846000) : Gives 57 #[.agg #[.int .u64 (v : Int), bkf v], .int .i64 (n : Int)] (.int .i64 (bkd (dg v) (4 + n) : Int)) := by
 intro w
 have g4 := a_bkn v (4 + n) (by omega)
 rw [bkf_known h]
 generalize bkd (dg v) (4 + n) = b at *
 rw [show ((4 + n : Nat) : Int) = 4 + (n : Int) by omega] at g4
 obtain ⟨f, hf, hv⟩ : ∃ f, bkn v = f ∧ (f = 71 ∨ f = 72) := ⟨_, rfl, by unfold bkn; split <;> simp⟩
 rw [hf] at g4 ⊢
 clear h hf
 have hbl : ∀ o, Below w.heap.size w (w.alloc o) := fun o => (Below.refl _ _).alloc (Nat.le_refl _) _
 rcases hv with rfl | rfl
 all_goals
  go_enter Tryz.func57, Tryz.ntmps57
  go_wp2_with (fail)
  refine (g4.at _).mono ?_
  rintro e_ w1 ⟨rfl, hb⟩
  replace hb := (hbl _).trans (hb.mono (by simp))
  go_wp2
  go_ret
  exact ⟨rfl, hb⟩
def bke (v : Nat) (n : Int) : Int := if known10 v then (if n < 0 then 1 else if 1048576 < n then 2 else 0) else 100
def bko (v : Nat) (n : Int) : Int := if bke v n = 0 then (bkd (dg v) (4 + n.toNat) : Int) else 0
end Go.Proofs.YtjoohgkgkabbpaaGreatDoor
namespace Go.Proofs.YtjoohgkgkabbpaaGreatDoor
set_option maxRecDepth 100000
open Go Go.RowKit Go.Sort
attribute [local go_sem] setCell_drewN alloc_drewN
theorem bkf_not {v : Nat} (h : known10 v = false) : bkf v = .nilFunc := by
 unfold known10 at h
 unfold bkf
 rcases Nat.decEq v 1 with h1 | rfl
 ·rcases Nat.decEq v 2 with h2 | rfl
  ·simp [h1, h2]
  ·simp at h
 ·simp at h
theorem oneF (x : Int) (k : FuncId) : (#[Value.int IntKind.u64 x, Value.func (Fn.func k) #[] #[]] : Array Value).all (·.oneCell') = true := by simp [Value.oneCell']
theorem oneN (x : Int) : (#[Value.int IntKind.u64 x, Value.nilFunc] : Array Value).all (·.oneCell') = true := by simp [Value.oneCell']
set_option maxRecDepth 100000 in
set_option maxHeartbeats 4000000 in
theorem a_Bucket (ver : Int) (v : Nat) (hv : IntKind.wrap .u64 ver = (v : Int)) (hv2 : v < 18446744073709551616) (n : Int) : Gives 29 #[.int .i64 ver, .int .i64 n] (.tuple #[.int .i64 (bko v n), .int .i64 (bke v n)]) := by
 intro w
 have c1 := a_rulesOf v hv2 w
 rcases hk : known10 v
 ·rw [hk, bkf_not hk] at c1
  have e1 : bke v n = 100 := by unfold bke; simp [hk]
  have e2 : bko v n = 0 := by unfold bko; simp [e1]
  rw [e1, e2]
  clear e1 e2 hk
  go_enter Tryz.func29, Tryz.ntmps29
  go_wp2_with (first | (simp only [hv]) | fail)
  refine c1.mono ?_
  rintro e_ w1 ⟨rfl, hb⟩
  clear c1
  have r0 := hp1_0 w1 (.cells #[Value.int IntKind.u64 0, Value.nilFunc] 94)
  have hb2 := hb.alloc (by have := hb.size; omega) (.cells #[Value.int IntKind.u64 0, Value.nilFunc] 94)
  have hb3 := below_setRow (g := w1.heap.size) hb2 (by have := hb.size; omega) #[Value.int IntKind.u64 (v : Int), Value.nilFunc]
  clear hb hb2
  go_wp2_with (first | (refine wpList_store_row rfl 94 _ _ rfl w1.heap.size #[.int .u64 (v : Int), Value.nilFunc] rfl rfl 94 _ r0 infoR rfl (oneN _) ?_) | fail)
  go_ret2
  exact ⟨rfl, hb3⟩
 ·rw [hk, bkf_known hk] at c1
  go_enter Tryz.func29, Tryz.ntmps29
  go_wp2_with (first | (simp only [hv]) | fail)
  refine c1.mono ?_
  rintro e_ w1 ⟨rfl, hb⟩
  clear c1
  have r0 := hp1_0 w1 (.cells #[Value.int IntKind.u64 0, Value.nilFunc] 94)
  have hb2 := hb.alloc (by have := hb.size; omega) (.cells #[Value.int IntKind.u64 0, Value.nilFunc] 94)
  have hb3 := below_setRow (g := w1.heap.size) hb2 (by have := hb.size; omega) #[Value.int IntKind.u64 (v : Int), Value.func (Fn.func (bkn v)) #[] #[]]
  have r1 := setRow_heap _ w1.heap.size _ (#[.int .u64 (v : Int), Value.func (Fn.func (bkn v)) #[] #[]]) _ _ r0
  clear hb hb2
  rcases Int.lt_or_le n 0 with q | q
  ·have e1 : bke v n = 1 := by unfold bke; simp [hk, q]
   have e2 : bko v n = 0 := by unfold bko; simp [e1]
   go_wp2_with (first | (refine wpList_store_row rfl 94 _ _ rfl w1.heap.size #[.int .u64 (v : Int), Value.func (Fn.func (bkn v)) #[] #[]] rfl rfl 94 _ r0 infoR rfl (oneF _ _) ?_) | fail)
   go_ret2
   exact ⟨by rw [e1, e2]; rfl, hb3⟩
  ·rcases Int.lt_or_le 1048576 n with q2 | q2
   ·have e1 : bke v n = 2 := by unfold bke; simp [hk, q2]; omega
    have e2 : bko v n = 0 := by unfold bko; simp [e1]
    go_wp2_with (first | (refine wpList_store_row rfl 94 _ _ rfl w1.heap.size #[.int .u64 (v : Int), Value.func (Fn.func (bkn v)) #[] #[]] rfl rfl 94 _ r0 infoR rfl (oneF _ _) ?_) | fail)
    go_ret2
    exact ⟨by rw [e1, e2]; rfl, hb3⟩
   ·obtain ⟨m, rfl⟩ : ∃ m : Nat, n = (m : Int) := ⟨n.toNat, by omega⟩
    have e1 : bke v (m : Int) = 0 := by unfold bke; simp [hk]; omega
    have e2 : bko v (m : Int) = (bkd (dg v) (4 + m) : Int) := by unfold bko; simp [e1]
    have c2 := a_bucketOf v m hk (by omega)
    rw [bkf_known hk] at c2
    generalize bkd (dg v) (4 + m) = b at *
    generalize bkn v = f at *
    clear hk
    go_wp2_with (first | (refine wpList_store_row rfl 94 _ _ rfl w1.heap.size #[.int .u64 (v : Int), Value.func (Fn.func f) #[] #[]] rfl rfl 94 _ r0 infoR rfl (oneF _ _) ?_) | (refine wpList_load_want rfl 94 _ rfl w1.heap.size rfl 94 #[.int .u64 (v : Int), Value.func (Fn.func f) #[] #[]] (0, 0) _ r1 Tryz.underlying94 rfl infoR ?_) | fail)
    refine (c2.at _).mono ?_
    rintro e_ w2 ⟨rfl, hb⟩
    replace hb3 := Below.after hb3 hb
    go_wp2
    go_ret2
    exact ⟨by rw [e1, e2]; rfl, hb3⟩
end Go.Proofs.YtjoohgkgkabbpaaGreatDoor
namespace Go.Proofs.YtjoohgkgkabbpaaGreatDoor
set_option maxRecDepth 100000
open Go Go.RowKit Go.Sort
attribute [local go_sem] setCell_drewN alloc_drewN
theorem oneFx (x : Int) (k : FuncId) : (#[Value.int IntKind.u64 x, Value.func (Fn.func k) #[] #[]] : Array Value).all (·.oneCell') = true := by simp [Value.oneCell']
def mo (v : Nat) : Nat := if v = 1 then 2097168 else 1179664
def esl (v : Nat) : List Slt := [.mk 1 1 v v [], .mk 2 5 16 16 [], .mk 3 5 60 60 [], .mk 4 5 80 (mo v) []]
theorem esl1 : esl 1 = [.mk 1 1 1 1 [], .mk 2 5 16 16 [], .mk 3 5 60 60 [], .mk 4 5 80 2097168 []] := rfl
theorem esl2 : esl 2 = [.mk 1 1 2 2 [], .mk 2 5 16 16 [], .mk 3 5 60 60 [], .mk 4 5 80 1179664 []] := rfl
theorem en_l1 {n : Nat} (h : n < 128) : (en n).length = 1 := by rw [en_lo h]; rfl
theorem en_l3 {n : Nat} (h1 : ¬ n < 128) (h2 : ¬ n / 128 < 128) (h3 : n / 128 / 128 < 128) : (en n).length = 3 := by
 rw [en_hi h1, en_hi h2, en_lo h3]; rfl
theorem en_l4 {n : Nat} (h1 : ¬ n < 128) (h2 : ¬ n / 128 < 128) (h3 : ¬ n / 128 / 128 < 128) (h4 : n / 128 / 128 / 128 < 128) : (en n).length = 4 := by
 rw [en_hi h1, en_hi h2, en_hi h3, en_lo h4]; rfl
theorem bkd_v1 : bkd (dg 1) (4 + 1048576) = 2097152 := by decide +kernel
theorem esl1_vld : vld (esl 1) = 0 := by
 rw [esl1]
 have h1 : ¬ lft [Slt.mk 1 1 1 1 [], .mk 2 5 16 16 [], .mk 3 5 60 60 [], .mk 4 5 80 2097168 []] 1 256 < 0 := by simp [lft, lfL, fitN, fitB]
 have e8 : (en 8).length = 1 := en_l1 (by decide)
 have ev : (en 1).length = 1 := en_l1 (by decide)
 have e18 : (en 18).length = 1 := en_l1 (by decide)
 have e16 : (en 16).length = 1 := en_l1 (by decide)
 have e26 : (en 26).length = 1 := en_l1 (by decide)
 have e60 : (en 60).length = 1 := en_l1 (by decide)
 have e34 : (en 34).length = 1 := en_l1 (by decide)
 have eM : (en 2097168).length = 4 := en_l4 (by decide) (by decide) (by decide) (by decide)
 have h2 : (spL [Slt.mk 1 1 1 1 [], .mk 2 5 16 16 [], .mk 3 5 60 60 [], .mk 4 5 80 2097168 []] 0 0).2 = 2097255 := by simp [spL, slsz, hdl, tyOf, frm, cpd, e8, ev, e18, e16, e26, e60, e34, eM]
 rw [vld, if_neg h1, if_neg (by rw [h2]; decide)]
theorem esl1_slo {W : World} {g : Nat} (h : Bx W g #[.int .i64 1, .int .i64 1, .int .u64 1, .int .u64 1, .slice none 0 0, .int .i64 2, .int .i64 5, .int .u64 16, .int .u64 16, .slice none 0 0, .int .i64 3, .int .i64 5, .int .u64 60, .int .u64 60, .slice none 0 0, .int .i64 4, .int .i64 5, .int .u64 80, .int .u64 2097168, .slice none 0 0]) : Slo W (.slice (some ⟨g, 0, none⟩) 4 4) (esl 1) := by
 rw [esl1]
 have hlt := h.lt
 refine Slo.mk (some ⟨g, 0, none⟩) 4 [Slt.mk 1 1 1 1 [], .mk 2 5 16 16 [], .mk 3 5 60 60 [], .mk 4 5 80 2097168 []] [.slice none 0 0, .slice none 0 0, .slice none 0 0, .slice none 0 0] (by simp) (by simp) (fun e => by cases e) (fun i hi => ⟨g, 0, rfl, hlt, ?_, ?_⟩) (fun i hi => ?_)
 ·obtain ⟨T, h⟩ := h
  intro j v hv
  rw [cell_of_row _ _ _ _ _ _ h]
  have hj : j < 5 := by have := (List.getElem?_eq_some_iff.1 hv).1; simpa [srow] using this
  have hi3 : i < 4 := hi
  rcases (by omega : i = 0 ∨ i = 1 ∨ i = 2 ∨ i = 3) with rfl | rfl | rfl | rfl <;> rcases (by omega : j = 0 ∨ j = 1 ∨ j = 2 ∨ j = 3 ∨ j = 4) with rfl | rfl | rfl | rfl | rfl <;> exact hv
 ·have hi3 : i < 4 := hi
  rcases (by omega : i = 0 ∨ i = 1 ∨ i = 2 ∨ i = 3) with rfl | rfl | rfl | rfl <;> (unfold Sok; decide)
 ·have hi3 : i < 4 := hi
  rcases (by omega : i = 0 ∨ i = 1 ∨ i = 2 ∨ i = 3) with rfl | rfl | rfl | rfl <;> exact slo_nil W
theorem esl1_flat : ∀ i, i < (esl 1).length → Fla (gs (esl 1) i) := fun i hi => by
 rw [esl1] at *
 have hi3 : i < 4 := hi
 rcases (by omega : i = 0 ∨ i = 1 ∨ i = 2 ∨ i = 3) with rfl | rfl | rfl | rfl <;> (unfold Fla; decide)
set_option maxRecDepth 100000 in
set_option maxHeartbeats 8000000 in
theorem a_compiledE1 (w : World) (g : Nat) (h : Bx w g #[.int .i64 1, .int .i64 1, .int .u64 1, .int .u64 1, .slice none 0 0, .int .i64 2, .int .i64 5, .int .u64 16, .int .u64 16, .slice none 0 0, .int .i64 3, .int .i64 5, .int .u64 60, .int .u64 60, .slice none 0 0, .int .i64 4, .int .i64 5, .int .u64 80, .int .u64 2097168, .slice none 0 0]) : Calls Tryz.prog 58 #[.slice (some ⟨g, 0, none⟩) 4 4] w fun e w' => (∃ q, e = .returned (.pointer (some ⟨q, 0, none⟩)) ∧ w.heap.size ≤ q ∧ Cdc w' q (esl 1)) ∧ Below w.heap.size w w' := by
 have cC := a_Compile (esl1_slo h) w (Below.refl _ _)
 go_enter Tryz.func58, Tryz.ntmps58
 go_wp2_with (fail)
 refine cC.mono ?_
 rintro e_ w1 ⟨hb, hq⟩
 rcases hq with ⟨_, q, rfl, hq1, hq2⟩ | ⟨hq, _⟩
 ·have A1 := hide hq2
  have A2 := hide hb
  clear cC hq2 hb h
  go_wp2_with (fail)
  go_ret
  exact ⟨⟨q, rfl, hq1, A1.out⟩, A2.out⟩
 ·exact absurd esl1_vld hq
set_option maxRecDepth 100000 in
set_option maxHeartbeats 8000000 in
theorem a_codecE1 (w : World) : Calls Tryz.prog 41 #[.agg #[.int .u64 1, .func (.func 71) #[] #[]]] w fun e w' => (∃ q, e = .returned (.pointer (some ⟨q, 0, none⟩)) ∧ w.heap.size ≤ q ∧ Cdc w' q (esl 1)) ∧ Below w.heap.size w w' := by
 have cB := hide (a_bucketOf 1 1048576 rfl (by decide))
 rw [bkd_v1] at cB
 have R0 := hp1_0 w (.cells #[.int .u64 1, .func (.func 71) #[] #[]] 94)
 have hw : Below w.heap.size w (w.alloc (.cells #[.int .u64 1, .func (.func 71) #[] #[]] 94)) := (Below.refl _ _).alloc (Nat.le_refl _) _
 go_enter Tryz.func41, Tryz.ntmps41
 iterate 5 go_step
 generalize w.alloc (.cells #[.int .u64 1, .func (.func 71) #[] #[]] 94) = w0 at *
 go_wp2_with (first | (refine wpList_load_want rfl 94 _ rfl w.heap.size rfl 94 _ (0, 0) _ R0 Tryz.underlying94 rfl infoR ?_) | fail)
 refine (cB.out w0).mono ?_
 rintro e_ x0 ⟨rfl, hb_⟩
 replace R0 := keep hb_ R0
 replace hw := Below.after hw hb_
 clear hb_ cB
 go_upto_region 2 with (fail)
 have hbd : Below x0.heap.size x0 x0.drew := below_drN (Below.refl _ _) 1
 replace R0 := keep hbd R0
 replace hw := Below.after hw hbd
 have HS : (fun W : World => W.heap[w.heap.size]? = some (.cells #[.int .u64 1, .func (.func 71) #[] #[]] 94 (0, 0))) x0.drew := R0
 clear hbd R0
 refine wp_region_noPanic ?_
 refine wp_region_held (S := fun W : World => W.heap[w.heap.size]? = some (.cells #[.int .u64 1, .func (.func 71) #[] #[]] 94 (0, 0))) (by kernel_rfl) ?_
 change wpAnyH _ _ _ _ _ _ _ _ (World.drew _)
 generalize x0.drew = x1 at *
 refine wpAnyH_take (i := 0) (v := ?v9) rfl (by kernel_rfl) (by kernel_rfl) (by kernel_rfl) (fun _ _ _ h => h) (Or.inl ⟨by rfl, ?y9⟩) HS ?r9
 case y9 =>
  intro w_ hS_
  go_simp
  try with_reducible rfl
 simp only [Act.put, List.getElem_toArray, List.getElem_cons_zero, List.setIfInBounds_toArray, List.set_cons_succ, List.set_cons_zero]
 refine wpAnyH_take (i := 1) (v := .int .u64 1) rfl (by kernel_rfl) (by kernel_rfl) (by kernel_rfl) (fun _ _ _ h => h) (Or.inl ⟨by rfl, ?y10⟩) HS ?r10
 case y10 =>
  intro w_ hS_
  have c_ := cell_of_row _ _ 0 _ _ _ hS_
  go_simp
  try with_reducible rfl
 simp only [Act.put, List.getElem_toArray, List.getElem_cons_succ, List.getElem_cons_zero, List.setIfInBounds_toArray, List.set_cons_succ, List.set_cons_zero]
 refine wpAnyH_take (i := 2) (v := ?v11) rfl (by kernel_rfl) (by kernel_rfl) (by kernel_rfl) (fun _ _ _ h => h) (Or.inl ⟨by rfl, ?y11⟩) HS ?r11
 case y11 =>
  intro w_ hS_
  go_simp
  try with_reducible rfl
 simp only [Act.put, List.getElem_toArray, List.getElem_cons_succ, List.getElem_cons_zero, List.setIfInBounds_toArray, List.set_cons_succ, List.set_cons_zero]
 refine wpAnyH_take (i := 3) (v := .int .u64 1) rfl (by kernel_rfl) (by kernel_rfl) (by kernel_rfl) (fun _ _ _ h => h) (Or.inl ⟨by rfl, ?y12⟩) HS ?r12
 case y12 =>
  intro w_ hS_
  have c_ := cell_of_row _ _ 0 _ _ _ hS_
  go_simp
  try with_reducible rfl
 simp only [Act.put, List.getElem_toArray, List.getElem_cons_succ, List.getElem_cons_zero, List.setIfInBounds_toArray, List.set_cons_succ, List.set_cons_zero]
 refine wpAnyH_take (i := 4) (v := .agg #[.int .i64 1, .int .i64 1, .int .u64 1, .int .u64 1, .slice none 0 0]) rfl (by kernel_rfl) (by kernel_rfl) (by kernel_rfl) (fun _ _ _ h => h) (Or.inl ⟨by rfl, ?y13⟩) HS ?r13
 case y13 =>
  intro w_ hS_
  go_simp
  try with_reducible rfl
 simp only [Act.put, List.getElem_toArray, List.getElem_cons_succ, List.getElem_cons_zero, List.setIfInBounds_toArray, List.set_cons_succ, List.set_cons_zero]
 refine wpAnyH_take (i := 7) (v := ?v14) rfl (by kernel_rfl) (by kernel_rfl) (by kernel_rfl) (fun _ _ _ h => h) (Or.inl ⟨by rfl, ?y14⟩) HS ?r14
 case y14 =>
  intro w_ hS_
  go_simp
  try with_reducible rfl
 simp only [Act.put, List.getElem_toArray, List.getElem_cons_succ, List.getElem_cons_zero, List.setIfInBounds_toArray, List.set_cons_succ, List.set_cons_zero]
 refine wpAnyH_take (i := 8) (v := .agg #[.int .i64 4, .int .i64 5, .int .u64 80, .int .u64 2097168, .slice none 0 0]) rfl (by kernel_rfl) (by kernel_rfl) (by kernel_rfl) (fun _ _ _ h => h) (Or.inl ⟨by rfl, ?y15⟩) HS ?r15
 case y15 =>
  intro w_ hS_
  go_simp
  try with_reducible rfl
 simp only [Act.put, List.getElem_toArray, List.getElem_cons_succ, List.getElem_cons_zero, List.setIfInBounds_toArray, List.set_cons_succ, List.set_cons_zero]
 refine wpAnyH_one (k := 5) (fuel := 4) (by kernel_rfl) rfl (by kernel_rfl) (fun K_ hK => ?_)
 refine wp_call_ex (f := 59) (R := fun v w' => v = .agg #[.int .i64 2, .int .i64 5, .int .u64 16, .int .u64 16, .slice none 0 0] ∧ Below x1.heap.size x1 w') (by kernel_rfl) ((a_sized 2 16 x1).mono (fun e w' h => (by obtain ⟨e1, e2⟩ := h; exact ⟨_, e1, rfl, e2⟩ : ∃ v, e = .returned v ∧ v = .agg #[.int .i64 2, .int .i64 5, .int .u64 16, .int .u64 16, .slice none 0 0] ∧ Below x1.heap.size x1 w'))) (fun v_ x2 hX_ => ?_)
 obtain ⟨rfl, hb_⟩ := hX_
 replace HS := keep hb_ HS
 replace hw := Below.after hw hb_
 clear hb_
 refine hK _ _ HS ?_
 simp only [Act.put, List.getElem_toArray, List.getElem_cons_succ, List.getElem_cons_zero, List.setIfInBounds_toArray, List.set_cons_succ, List.set_cons_zero]
 clear hK
 refine wpAnyH_one (k := 6) (fuel := 3) (by kernel_rfl) rfl (by kernel_rfl) (fun K_ hK => ?_)
 refine wp_call_ex (f := 59) (R := fun v w' => v = .agg #[.int .i64 3, .int .i64 5, .int .u64 60, .int .u64 60, .slice none 0 0] ∧ Below x2.heap.size x2 w') (by kernel_rfl) ((a_sized 3 60 x2).mono (fun e w' h => (by obtain ⟨e1, e2⟩ := h; exact ⟨_, e1, rfl, e2⟩ : ∃ v, e = .returned v ∧ v = .agg #[.int .i64 3, .int .i64 5, .int .u64 60, .int .u64 60, .slice none 0 0] ∧ Below x2.heap.size x2 w'))) (fun v_ x3 hX_ => ?_)
 obtain ⟨rfl, hb_⟩ := hX_
 replace HS := keep hb_ HS
 replace hw := Below.after hw hb_
 clear hb_
 refine hK _ _ HS ?_
 simp only [Act.put, List.getElem_toArray, List.getElem_cons_succ, List.getElem_cons_zero, List.setIfInBounds_toArray, List.set_cons_succ, List.set_cons_zero]
 clear hK
 refine wpAnyH_one (k := 9) (fuel := 2) (by kernel_rfl) rfl (by kernel_rfl) (fun K_ hK => ?_)
 refine wp_val_op (.slice (some ⟨x3.heap.size, 0, none⟩) 4 4) (w' := x3.alloc (.cells #[.int .i64 1, .int .i64 1, .int .u64 1, .int .u64 1, .slice none 0 0, .int .i64 2, .int .i64 5, .int .u64 16, .int .u64 16, .slice none 0 0, .int .i64 3, .int .i64 5, .int .u64 60, .int .u64 60, .slice none 0 0, .int .i64 4, .int .i64 5, .int .u64 80, .int .u64 2097168, .slice none 0 0] 114)) (by kernel_rfl) ?_
 have hBx : Bx (x3.alloc (.cells #[.int .i64 1, .int .i64 1, .int .u64 1, .int .u64 1, .slice none 0 0, .int .i64 2, .int .i64 5, .int .u64 16, .int .u64 16, .slice none 0 0, .int .i64 3, .int .i64 5, .int .u64 60, .int .u64 60, .slice none 0 0, .int .i64 4, .int .i64 5, .int .u64 80, .int .u64 2097168, .slice none 0 0] 114)) x3.heap.size #[.int .i64 1, .int .i64 1, .int .u64 1, .int .u64 1, .slice none 0 0, .int .i64 2, .int .i64 5, .int .u64 16, .int .u64 16, .slice none 0 0, .int .i64 3, .int .i64 5, .int .u64 60, .int .u64 60, .slice none 0 0, .int .i64 4, .int .i64 5, .int .u64 80, .int .u64 2097168, .slice none 0 0] := ⟨_, hp1_0 x3 _⟩
 have hb_ : Below x3.heap.size x3 (x3.alloc (.cells #[.int .i64 1, .int .i64 1, .int .u64 1, .int .u64 1, .slice none 0 0, .int .i64 2, .int .i64 5, .int .u64 16, .int .u64 16, .slice none 0 0, .int .i64 3, .int .i64 5, .int .u64 60, .int .u64 60, .slice none 0 0, .int .i64 4, .int .i64 5, .int .u64 80, .int .u64 2097168, .slice none 0 0] 114)) := (Below.refl _ _).alloc (Nat.le_refl _) _
 replace HS := keep hb_ HS
 replace hw := Below.after hw hb_
 clear hb_
 refine hK _ _ HS ?_
 simp only [Act.put, List.getElem_toArray, List.getElem_cons_succ, List.getElem_cons_zero, List.setIfInBounds_toArray, List.set_cons_succ, List.set_cons_zero]
 clear hK
 generalize x3.alloc (.cells #[.int .i64 1, .int .i64 1, .int .u64 1, .int .u64 1, .slice none 0 0, .int .i64 2, .int .i64 5, .int .u64 16, .int .u64 16, .slice none 0 0, .int .i64 3, .int .i64 5, .int .u64 60, .int .u64 60, .slice none 0 0, .int .i64 4, .int .i64 5, .int .u64 80, .int .u64 2097168, .slice none 0 0] 114) = x4 at *
 generalize x3.heap.size = gp at *
 refine wpAnyH_one (k := 10) (fuel := 1) (by kernel_rfl) rfl (by kernel_rfl) (fun K_ hK => ?_)
 have cK := (a_compiledE1 x4 gp hBx).mono (fun e w' h => (by obtain ⟨⟨q, e1, e2, e3⟩, e4⟩ := h; exact ⟨_, e1, q, rfl, e2, e3, e4⟩ : ∃ v, e = .returned v ∧ ∃ q, v = .pointer (some ⟨q, 0, none⟩) ∧ x4.heap.size ≤ q ∧ Cdc w' q (esl 1) ∧ Below x4.heap.size x4 w'))
 refine wp_call_ex (f := 58) (R := fun v w' => ∃ q, v = .pointer (some ⟨q, 0, none⟩) ∧ x4.heap.size ≤ q ∧ Cdc w' q (esl 1) ∧ Below x4.heap.size x4 w') (by kernel_rfl) cK (fun v_ x5 hX_ => ?_)
 obtain ⟨q, rfl, hq1, hq2, hb_⟩ := hX_
 have hq3 : w.heap.size ≤ q := by have := hw.size; omega
 replace HS := keep hb_ HS
 replace hw := Below.after hw hb_
 clear hb_ cK hBx hq1
 refine hK _ _ HS ?_
 simp only [Act.put, List.getElem_toArray, List.getElem_cons_succ, List.getElem_cons_zero, List.setIfInBounds_toArray, List.set_cons_succ, List.set_cons_zero]
 clear hK
 refine wpAnyH_take (i := 11) (v := ?v16) rfl (by kernel_rfl) (by kernel_rfl) (by kernel_rfl) (fun _ _ _ h => h) (Or.inl ⟨by rfl, ?y16⟩) HS ?r16
 case y16 =>
  intro w_ hS_
  go_simp
  try with_reducible rfl
 simp only [Act.put, List.getElem_toArray, List.getElem_cons_succ, List.getElem_cons_zero, List.setIfInBounds_toArray, List.set_cons_succ, List.set_cons_zero]
 refine wpAnyH_done (by kernel_rfl) ?_ _
 refine NoPanic.normal ?_
 have A1 := hide hq2
 have A2 := hide hw
 clear hq2 hw HS
 go_wp2_with (fail)
 go_ret
 exact ⟨⟨q, rfl, hq3, A1.out⟩, A2.out⟩
theorem bkd_v2 : bkd (dg 2) (4 + 1048576) = 1179648 := by decide +kernel
theorem esl2_vld : vld (esl 2) = 0 := by
 rw [esl2]
 have h1 : ¬ lft [Slt.mk 1 1 2 2 [], .mk 2 5 16 16 [], .mk 3 5 60 60 [], .mk 4 5 80 1179664 []] 1 256 < 0 := by simp [lft, lfL, fitN, fitB]
 have e8 : (en 8).length = 1 := en_l1 (by decide)
 have ev : (en 2).length = 1 := en_l1 (by decide)
 have e18 : (en 18).length = 1 := en_l1 (by decide)
 have e16 : (en 16).length = 1 := en_l1 (by decide)
 have e26 : (en 26).length = 1 := en_l1 (by decide)
 have e60 : (en 60).length = 1 := en_l1 (by decide)
 have e34 : (en 34).length = 1 := en_l1 (by decide)
 have eM : (en 1179664).length = 3 := en_l3 (by decide) (by decide) (by decide)
 have h2 : (spL [Slt.mk 1 1 2 2 [], .mk 2 5 16 16 [], .mk 3 5 60 60 [], .mk 4 5 80 1179664 []] 0 0).2 = 1179750 := by simp [spL, slsz, hdl, tyOf, frm, cpd, e8, ev, e18, e16, e26, e60, e34, eM]
 rw [vld, if_neg h1, if_neg (by rw [h2]; decide)]
theorem esl2_slo {W : World} {g : Nat} (h : Bx W g #[.int .i64 1, .int .i64 1, .int .u64 2, .int .u64 2, .slice none 0 0, .int .i64 2, .int .i64 5, .int .u64 16, .int .u64 16, .slice none 0 0, .int .i64 3, .int .i64 5, .int .u64 60, .int .u64 60, .slice none 0 0, .int .i64 4, .int .i64 5, .int .u64 80, .int .u64 1179664, .slice none 0 0]) : Slo W (.slice (some ⟨g, 0, none⟩) 4 4) (esl 2) := by
 rw [esl2]
 have hlt := h.lt
 refine Slo.mk (some ⟨g, 0, none⟩) 4 [Slt.mk 1 1 2 2 [], .mk 2 5 16 16 [], .mk 3 5 60 60 [], .mk 4 5 80 1179664 []] [.slice none 0 0, .slice none 0 0, .slice none 0 0, .slice none 0 0] (by simp) (by simp) (fun e => by cases e) (fun i hi => ⟨g, 0, rfl, hlt, ?_, ?_⟩) (fun i hi => ?_)
 ·obtain ⟨T, h⟩ := h
  intro j v hv
  rw [cell_of_row _ _ _ _ _ _ h]
  have hj : j < 5 := by have := (List.getElem?_eq_some_iff.1 hv).1; simpa [srow] using this
  have hi3 : i < 4 := hi
  rcases (by omega : i = 0 ∨ i = 1 ∨ i = 2 ∨ i = 3) with rfl | rfl | rfl | rfl <;> rcases (by omega : j = 0 ∨ j = 1 ∨ j = 2 ∨ j = 3 ∨ j = 4) with rfl | rfl | rfl | rfl | rfl <;> exact hv
 ·have hi3 : i < 4 := hi
  rcases (by omega : i = 0 ∨ i = 1 ∨ i = 2 ∨ i = 3) with rfl | rfl | rfl | rfl <;> (unfold Sok; decide)
 ·have hi3 : i < 4 := hi
  rcases (by omega : i = 0 ∨ i = 1 ∨ i = 2 ∨ i = 3) with rfl | rfl | rfl | rfl <;> exact slo_nil W
theorem esl2_flat : ∀ i, i < (esl 2).length → Fla (gs (esl 2) i) := fun i hi => by
 rw [esl2] at *
 have hi3 : i < 4 := hi
 rcases (by omega : i = 0 ∨ i = 1 ∨ i = 2 ∨ i = 3) with rfl | rfl | rfl | rfl <;> (unfold Fla; decide)
set_option maxRecDepth 100000 in
set_option maxHeartbeats 8000000 in
theorem a_compiledE2 (w : World) (g : Nat) (h : Bx w g #[.int .i64 1, .int .i64 1, .int .u64 2, .int .u64 2, .slice none 0 0, .int .i64 2, .int .i64 5, .int .u64 16, .int .u64 16, .slice none 0 0, .int .i64 3, .int .i64 5, .int .u64 60, .int .u64 60, .slice none 0 0, .int .i64 4, .int .i64 5, .int .u64 80, .int .u64 1179664, .slice none 0 0]) : Calls Tryz.prog 58 #[.slice (some ⟨g, 0, none⟩) 4 4] w fun e w' => (∃ q, e = .returned (.pointer (some ⟨q, 0, none⟩)) ∧ w.heap.size ≤ q ∧ Cdc w' q (esl 2)) ∧ Below w.heap.size w w' := by
 have cC := a_Compile (esl2_slo h) w (Below.refl _ _)
 go_enter Tryz.func58, Tryz.ntmps58
 go_wp2_with (fail)
 refine cC.mono ?_
 rintro e_ w1 ⟨hb, hq⟩
 rcases hq with ⟨_, q, rfl, hq1, hq2⟩ | ⟨hq, _⟩
 ·have A1 := hide hq2
  have A2 := hide hb
  clear cC hq2 hb h
  go_wp2_with (fail)
  go_ret
  exact ⟨⟨q, rfl, hq1, A1.out⟩, A2.out⟩
 ·exact absurd esl2_vld hq
set_option maxRecDepth 100000 in
set_option maxHeartbeats 8000000 in
theorem a_codecE2 (w : World) : Calls Tryz.prog 41 #[.agg #[.int .u64 2, .func (.func 72) #[] #[]]] w fun e w' => (∃ q, e = .returned (.pointer (some ⟨q, 0, none⟩)) ∧ w.heap.size ≤ q ∧ Cdc w' q (esl 2)) ∧ Below w.heap.size w w' := by
 have cB := hide (a_bucketOf 2 1048576 rfl (by decide))
 rw [bkd_v2] at cB
 have R0 := hp1_0 w (.cells #[.int .u64 2, .func (.func 72) #[] #[]] 94)
 have hw : Below w.heap.size w (w.alloc (.cells #[.int .u64 2, .func (.func 72) #[] #[]] 94)) := (Below.refl _ _).alloc (Nat.le_refl _) _
 go_enter Tryz.func41, Tryz.ntmps41
 iterate 5 go_step
 generalize w.alloc (.cells #[.int .u64 2, .func (.func 72) #[] #[]] 94) = w0 at *
 go_wp2_with (first | (refine wpList_load_want rfl 94 _ rfl w.heap.size rfl 94 _ (0, 0) _ R0 Tryz.underlying94 rfl infoR ?_) | fail)
 refine (cB.out w0).mono ?_
 rintro e_ x0 ⟨rfl, hb_⟩
 replace R0 := keep hb_ R0
 replace hw := Below.after hw hb_
 clear hb_ cB
 go_upto_region 2 with (fail)
 have hbd : Below x0.heap.size x0 x0.drew := below_drN (Below.refl _ _) 1
 replace R0 := keep hbd R0
 replace hw := Below.after hw hbd
 have HS : (fun W : World => W.heap[w.heap.size]? = some (.cells #[.int .u64 2, .func (.func 72) #[] #[]] 94 (0, 0))) x0.drew := R0
 clear hbd R0
 refine wp_region_noPanic ?_
 refine wp_region_held (S := fun W : World => W.heap[w.heap.size]? = some (.cells #[.int .u64 2, .func (.func 72) #[] #[]] 94 (0, 0))) (by kernel_rfl) ?_
 change wpAnyH _ _ _ _ _ _ _ _ (World.drew _)
 generalize x0.drew = x1 at *
 refine wpAnyH_take (i := 0) (v := ?v25) rfl (by kernel_rfl) (by kernel_rfl) (by kernel_rfl) (fun _ _ _ h => h) (Or.inl ⟨by rfl, ?y25⟩) HS ?r25
 case y25 =>
  intro w_ hS_
  go_simp
  try with_reducible rfl
 simp only [Act.put, List.getElem_toArray, List.getElem_cons_zero, List.setIfInBounds_toArray, List.set_cons_succ, List.set_cons_zero]
 refine wpAnyH_take (i := 1) (v := .int .u64 2) rfl (by kernel_rfl) (by kernel_rfl) (by kernel_rfl) (fun _ _ _ h => h) (Or.inl ⟨by rfl, ?y26⟩) HS ?r26
 case y26 =>
  intro w_ hS_
  have c_ := cell_of_row _ _ 0 _ _ _ hS_
  go_simp
  try with_reducible rfl
 simp only [Act.put, List.getElem_toArray, List.getElem_cons_succ, List.getElem_cons_zero, List.setIfInBounds_toArray, List.set_cons_succ, List.set_cons_zero]
 refine wpAnyH_take (i := 2) (v := ?v27) rfl (by kernel_rfl) (by kernel_rfl) (by kernel_rfl) (fun _ _ _ h => h) (Or.inl ⟨by rfl, ?y27⟩) HS ?r27
 case y27 =>
  intro w_ hS_
  go_simp
  try with_reducible rfl
 simp only [Act.put, List.getElem_toArray, List.getElem_cons_succ, List.getElem_cons_zero, List.setIfInBounds_toArray, List.set_cons_succ, List.set_cons_zero]
 refine wpAnyH_take (i := 3) (v := .int .u64 2) rfl (by kernel_rfl) (by kernel_rfl) (by kernel_rfl) (fun _ _ _ h => h) (Or.inl ⟨by rfl, ?y28⟩) HS ?r28
 case y28 =>
  intro w_ hS_
  have c_ := cell_of_row _ _ 0 _ _ _ hS_
  go_simp
  try with_reducible rfl
 simp only [Act.put, List.getElem_toArray, List.getElem_cons_succ, List.getElem_cons_zero, List.setIfInBounds_toArray, List.set_cons_succ, List.set_cons_zero]
 refine wpAnyH_take (i := 4) (v := .agg #[.int .i64 1, .int .i64 1, .int .u64 2, .int .u64 2, .slice none 0 0]) rfl (by kernel_rfl) (by kernel_rfl) (by kernel_rfl) (fun _ _ _ h => h) (Or.inl ⟨by rfl, ?y29⟩) HS ?r29
 case y29 =>
  intro w_ hS_
  go_simp
  try with_reducible rfl
 simp only [Act.put, List.getElem_toArray, List.getElem_cons_succ, List.getElem_cons_zero, List.setIfInBounds_toArray, List.set_cons_succ, List.set_cons_zero]
 refine wpAnyH_take (i := 7) (v := ?v30) rfl (by kernel_rfl) (by kernel_rfl) (by kernel_rfl) (fun _ _ _ h => h) (Or.inl ⟨by rfl, ?y30⟩) HS ?r30
 case y30 =>
  intro w_ hS_
  go_simp
  try with_reducible rfl
 simp only [Act.put, List.getElem_toArray, List.getElem_cons_succ, List.getElem_cons_zero, List.setIfInBounds_toArray, List.set_cons_succ, List.set_cons_zero]
 refine wpAnyH_take (i := 8) (v := .agg #[.int .i64 4, .int .i64 5, .int .u64 80, .int .u64 1179664, .slice none 0 0]) rfl (by kernel_rfl) (by kernel_rfl) (by kernel_rfl) (fun _ _ _ h => h) (Or.inl ⟨by rfl, ?y31⟩) HS ?r31
 case y31 =>
  intro w_ hS_
  go_simp
  try with_reducible rfl
 simp only [Act.put, List.getElem_toArray, List.getElem_cons_succ, List.getElem_cons_zero, List.setIfInBounds_toArray, List.set_cons_succ, List.set_cons_zero]
 refine wpAnyH_one (k := 5) (fuel := 4) (by kernel_rfl) rfl (by kernel_rfl) (fun K_ hK => ?_)
 refine wp_call_ex (f := 59) (R := fun v w' => v = .agg #[.int .i64 2, .int .i64 5, .int .u64 16, .int .u64 16, .slice none 0 0] ∧ Below x1.heap.size x1 w') (by kernel_rfl) ((a_sized 2 16 x1).mono (fun e w' h => (by obtain ⟨e1, e2⟩ := h; exact ⟨_, e1, rfl, e2⟩ : ∃ v, e = .returned v ∧ v = .agg #[.int .i64 2, .int .i64 5, .int .u64 16, .int .u64 16, .slice none 0 0] ∧ Below x1.heap.size x1 w'))) (fun v_ x2 hX_ => ?_)
 obtain ⟨rfl, hb_⟩ := hX_
 replace HS := keep hb_ HS
 replace hw := Below.after hw hb_
 clear hb_
 refine hK _ _ HS ?_
 simp only [Act.put, List.getElem_toArray, List.getElem_cons_succ, List.getElem_cons_zero, List.setIfInBounds_toArray, List.set_cons_succ, List.set_cons_zero]
 clear hK
 refine wpAnyH_one (k := 6) (fuel := 3) (by kernel_rfl) rfl (by kernel_rfl) (fun K_ hK => ?_)
 refine wp_call_ex (f := 59) (R := fun v w' => v = .agg #[.int .i64 3, .int .i64 5, .int .u64 60, .int .u64 60, .slice none 0 0] ∧ Below x2.heap.size x2 w') (by kernel_rfl) ((a_sized 3 60 x2).mono (fun e w' h => (by obtain ⟨e1, e2⟩ := h; exact ⟨_, e1, rfl, e2⟩ : ∃ v, e = .returned v ∧ v = .agg #[.int .i64 3, .int .i64 5, .int .u64 60, .int .u64 60, .slice none 0 0] ∧ Below x2.heap.size x2 w'))) (fun v_ x3 hX_ => ?_)
 obtain ⟨rfl, hb_⟩ := hX_
 replace HS := keep hb_ HS
 replace hw := Below.after hw hb_
 clear hb_
 refine hK _ _ HS ?_
 simp only [Act.put, List.getElem_toArray, List.getElem_cons_succ, List.getElem_cons_zero, List.setIfInBounds_toArray, List.set_cons_succ, List.set_cons_zero]
 clear hK
 refine wpAnyH_one (k := 9) (fuel := 2) (by kernel_rfl) rfl (by kernel_rfl) (fun K_ hK => ?_)
 refine wp_val_op (.slice (some ⟨x3.heap.size, 0, none⟩) 4 4) (w' := x3.alloc (.cells #[.int .i64 1, .int .i64 1, .int .u64 2, .int .u64 2, .slice none 0 0, .int .i64 2, .int .i64 5, .int .u64 16, .int .u64 16, .slice none 0 0, .int .i64 3, .int .i64 5, .int .u64 60, .int .u64 60, .slice none 0 0, .int .i64 4, .int .i64 5, .int .u64 80, .int .u64 1179664, .slice none 0 0] 114)) (by kernel_rfl) ?_
 have hBx : Bx (x3.alloc (.cells #[.int .i64 1, .int .i64 1, .int .u64 2, .int .u64 2, .slice none 0 0, .int .i64 2, .int .i64 5, .int .u64 16, .int .u64 16, .slice none 0 0, .int .i64 3, .int .i64 5, .int .u64 60, .int .u64 60, .slice none 0 0, .int .i64 4, .int .i64 5, .int .u64 80, .int .u64 1179664, .slice none 0 0] 114)) x3.heap.size #[.int .i64 1, .int .i64 1, .int .u64 2, .int .u64 2, .slice none 0 0, .int .i64 2, .int .i64 5, .int .u64 16, .int .u64 16, .slice none 0 0, .int .i64 3, .int .i64 5, .int .u64 60, .int .u64 60, .slice none 0 0, .int .i64 4, .int .i64 5, .int .u64 80, .int .u64 1179664, .slice none 0 0] := ⟨_, hp1_0 x3 _⟩
 have hb_ : Below x3.heap.size x3 (x3.alloc (.cells #[.int .i64 1, .int .i64 1, .int .u64 2, .int .u64 2, .slice none 0 0, .int .i64 2, .int .i64 5, .int .u64 16, .int .u64 16, .slice none 0 0, .int .i64 3, .int .i64 5, .int .u64 60, .int .u64 60, .slice none 0 0, .int .i64 4, .int .i64 5, .int .u64 80, .int .u64 1179664, .slice none 0 0] 114)) := (Below.refl _ _).alloc (Nat.le_refl _) _
 replace HS := keep hb_ HS
 replace hw := Below.after hw hb_
 clear hb_
 refine hK _ _ HS ?_
 simp only [Act.put, List.getElem_toArray, List.getElem_cons_succ, List.getElem_cons_zero, List.setIfInBounds_toArray, List.set_cons_succ, List.set_cons_zero]
 clear hK
 generalize x3.alloc (.cells #[.int .i64 1, .int .i64 1, .int .u64 2, .int .u64 2, .slice none 0 0, .int .i64 2, .int .i64 5, .int .u64 16, .int .u64 16, .slice none 0 0, .int .i64 3, .int .i64 5, .int .u64 60, .int .u64 60, .slice none 0 0, .int .i64 4, .int .i64 5, .int .u64 80, .int .u64 1179664, .slice none 0 0] 114) = x4 at *
 generalize x3.heap.size = gp at *
 refine wpAnyH_one (k := 10) (fuel := 1) (by kernel_rfl) rfl (by kernel_rfl) (fun K_ hK => ?_)
 have cK := (a_compiledE2 x4 gp hBx).mono (fun e w' h => (by obtain ⟨⟨q, e1, e2, e3⟩, e4⟩ := h; exact ⟨_, e1, q, rfl, e2, e3, e4⟩ : ∃ v, e = .returned v ∧ ∃ q, v = .pointer (some ⟨q, 0, none⟩) ∧ x4.heap.size ≤ q ∧ Cdc w' q (esl 2) ∧ Below x4.heap.size x4 w'))
 refine wp_call_ex (f := 58) (R := fun v w' => ∃ q, v = .pointer (some ⟨q, 0, none⟩) ∧ x4.heap.size ≤ q ∧ Cdc w' q (esl 2) ∧ Below x4.heap.size x4 w') (by kernel_rfl) cK (fun v_ x5 hX_ => ?_)
 obtain ⟨q, rfl, hq1, hq2, hb_⟩ := hX_
 have hq3 : w.heap.size ≤ q := by have := hw.size; omega
 replace HS := keep hb_ HS
 replace hw := Below.after hw hb_
 clear hb_ cK hBx hq1
 refine hK _ _ HS ?_
 simp only [Act.put, List.getElem_toArray, List.getElem_cons_succ, List.getElem_cons_zero, List.setIfInBounds_toArray, List.set_cons_succ, List.set_cons_zero]
 clear hK
 refine wpAnyH_take (i := 11) (v := ?v32) rfl (by kernel_rfl) (by kernel_rfl) (by kernel_rfl) (fun _ _ _ h => h) (Or.inl ⟨by rfl, ?y32⟩) HS ?r32
 case y32 =>
  intro w_ hS_
  go_simp
  try with_reducible rfl
 simp only [Act.put, List.getElem_toArray, List.getElem_cons_succ, List.getElem_cons_zero, List.setIfInBounds_toArray, List.set_cons_succ, List.set_cons_zero]
 refine wpAnyH_done (by kernel_rfl) ?_ _
 refine NoPanic.normal ?_
 have A1 := hide hq2
 have A2 := hide hw
 clear hq2 hw HS
 go_wp2_with (fail)
 go_ret
 exact ⟨⟨q, rfl, hq3, A1.out⟩, A2.out⟩
end Go.Proofs.YtjoohgkgkabbpaaGreatDoor

