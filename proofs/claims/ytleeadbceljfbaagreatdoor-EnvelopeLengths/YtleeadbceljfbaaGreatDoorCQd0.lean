import Derived.Test.YtleeadbceljfbaaGreatDoorProg
import Derived.WalkKit
import Derived.WalkSpells
import Derived.WalkLawsBesides
import Derived.Lib.QuietBelow
import Derived.Laws.BitsAllLaws
import Derived.BigQuiet
import Derived.WalkMore
import Derived.Maps.Own
import Derived.Maps.OwnSet
import Derived.Test.YtleeadbceljfbaaGreatDoorCKa
import Derived.Test.YtleeadbceljfbaaGreatDoorCQa1
namespace Go.Proofs.YtleeadbceljfbaaGreatDoor
set_option maxRecDepth 100000
open Go Go.RowKit Go.Sort Go.ChangeMaps Go.MapKept
attribute [local go_sem] setCell_drewN alloc_drewN
theorem keyn (n : Nat) (hn : n < 18446744073709551616) : keyOf Tryz.prog 58 (.int .u64 (n : Int)) = some (.int .u64 (n : Int)) := Go.Maps.keyOf_int_mk Tryz.underlying58 (by unfold Lit.wf; simp only [Bool.and_eq_true, decide_eq_true_eq]; exact ⟨Int.natCast_nonneg n, by show (n : Int) ≤ 18446744073709551615; omega⟩)
theorem run_chk (n : Nat) (hn : n < 18446744073709551616) (e : Bool) (w : World) : (Instr.checkKey e 10000 58 (.int .u64 (n : Int))).run Tryz.prog w = .ok () w := (Go.Maps.int_keyed Tryz.underlying58).check w e (keyn n hn)
theorem run_fnd (w : World) (k : Value) (es : List MapEntry) (r : Option (Nat × Value)) (hf : Instr.findNow (.int .u64) k es 0 = some r) : (Instr.findKey 58 k es).run Tryz.prog w = .ok r w := by
 simp [Instr.findKey, run_underlying Tryz.underlying58, hf, Result.andThen]
theorem run_ins (w : World) (b : Nat) (es : Array MapEntry) (c : Nat) (n : Nat) (hn : n < 18446744073709551616) (v : Value) (hb : w.heap[b]? = some (.map es c)) (hf : Instr.findNow (.int .u64) (.int .u64 (n : Int)) es.toList 0 = some none) :
   (Instr.mapUpdate 94 (.map (some b)) (.int .u64 (n : Int)) v).run Tryz.prog w = .ok () (setBlock w b (.map (es.push { key := .int .u64 (n : Int), val := v, born := c }) (c + 1))) := by
 simp [Instr.mapUpdate, run_underlying Tryz.underlying94, MapKept.run_getObj_map hb, run_chk n hn, run_fnd w _ _ _ hf, MapKept.run_setObj_map _ hb, Result.andThen, setBlock]
theorem run_lookS (w : World) (b : Nat) (es : Array MapEntry) (c : Nat) (n : Nat) (hn : n < 18446744073709551616) (i : Nat) (v : Value) (hb : w.heap[b]? = some (.map es c)) (hf : Instr.findNow (.int .u64) (.int .u64 (n : Int)) es.toList 0 = some (some (i, v))) :
   (Instr.lookup 94 (.map (some b)) (.int .u64 (n : Int)) true).run Tryz.prog w = .ok (.tuple #[v, .bool true]) w := by
 simp [Instr.lookup, run_underlying Tryz.underlying94, MapKept.run_getObj_map hb, run_chk n hn, run_fnd w _ _ _ hf, Result.andThen]
theorem zeroF (w : World) : (zeroValue 67).run Tryz.prog w = .ok .nilFunc w := by kernel_rfl
theorem run_lookN (w : World) (b : Nat) (es : Array MapEntry) (c : Nat) (n : Nat) (hn : n < 18446744073709551616) (hb : w.heap[b]? = some (.map es c)) (hf : Instr.findNow (.int .u64) (.int .u64 (n : Int)) es.toList 0 = some none) :
   (Instr.lookup 94 (.map (some b)) (.int .u64 (n : Int)) true).run Tryz.prog w = .ok (.tuple #[.nilFunc, .bool false]) w := by
 simp [Instr.lookup, run_underlying Tryz.underlying94, MapKept.run_getObj_map hb, run_chk n hn, run_fnd w _ _ _ hf, Result.andThen]
theorem below_setBlock {w W : World} {g b : Nat} (o : Obj) (h : Below g w W) (hb : g ≤ b) : Below g w (setBlock W b o) := by
 refine ⟨h.os, h.tape, h.output, ?_, fun k hk => ?_⟩
 · have := h.size
   simpa [setBlock] using this
 · rw [← h.block k hk]
   simp only [setBlock]
   exact Array.getElem?_setIfInBounds_ne (by omega)
theorem setBlock_at {W : World} {b : Nat} {o : Obj} (h : b < W.heap.size) : (setBlock W b o).heap[b]? = some o := by
 simp [setBlock, h]
theorem setBlock_ne {W : World} {b k : Nat} {o : Obj} (h : b ≠ k) : (setBlock W b o).heap[k]? = W.heap[k]? := by
 simp only [setBlock]
 exact Array.getElem?_setIfInBounds_ne h
def bkf (n : Nat) : Value := if n = 1 then .func (.func 47) #[] #[] else if n = 2 then .func (.func 48) #[] #[] else .nilFunc
def known10 (n : Nat) : Bool := n == 1 || n == 2
def es1 : Array MapEntry := #[{ key := .int .u64 ((1 : Nat) : Int), val := .func (.func 47) #[] #[], born := 0 }]
def es2 : Array MapEntry := es1.push { key := .int .u64 ((2 : Nat) : Int), val := .func (.func 48) #[] #[], born := 1 }
theorem run_two (n : Nat) (hn : n < 18446744073709551616) (w : World) (b c : Nat) (hb : w.heap[b]? = some (.map es2 c)) : (Instr.lookup 94 (.map (some b)) (.int .u64 (n : Int)) true).run Tryz.prog w = .ok (.tuple #[bkf n, .bool (known10 n)]) w := by
 rcases Nat.decEq n 1 with h1 | rfl
 · rcases Nat.decEq n 2 with h2 | rfl
   · rw [run_lookN w b es2 c n hn hb]
     · simp [bkf, known10, h1, h2]
     · have e1 : ((n : Int) == ((1 : Nat) : Int)) = false := by simp; omega
       have e2 : ((n : Int) == ((2 : Nat) : Int)) = false := by simp; omega
       simp only [es2, es1, Array.toList_push, Instr.findNow, Instr.sameNow, List.cons_append, List.nil_append, e1, e2, if_true]
   · exact run_lookS w b es2 c 2 hn 1 _ hb rfl
 · exact run_lookS w b es2 c 1 hn 0 _ hb rfl
theorem results_cell_slot {P : Program} {fn : Func} {p q : Tmp} {ty : TypeId} (h : fn.results = #[.cell p ty, .tmp q]) (tmps : Array Value) (w : World) (g : Nat) (t : TypeId) (cs : Array Value) (fr : Nat × Nat) (d : TypeDesc)
   (hp : tmps.getD p undef = .pointer (some ⟨g, 0, none⟩)) (hg : w.heap[g]? = some (.cells cs t fr))
   (hu : P.underlying ty = some d) (hd : (match d with | .struct _ | .array _ _ => true | _ => false) = true) (hi : (P.info? ty).map (·.size) = some cs.size) :
   (results fn tmps).run P w = .ok (.tuple #[.agg cs, tmps.getD q undef]) w := by
 have hp' : tmps[p]?.getD undef = .pointer (some ⟨g, 0, none⟩) := by simpa using hp
 simp [results, h, hp', asAddr, run_loadVar_row w g t ty cs fr d hg hu hd hi]
theorem infoR : (Tryz.prog.info? 69).map (·.size) = some 2 := by kernel_rfl
set_option maxRecDepth 100000 in
set_option maxHeartbeats 4000000 in
theorem a_rulesOf (n : Nat) (hn : n < 18446744073709551616) (w : World) : Calls Tryz.prog 30 #[.int .u64 (n : Int)] w fun e w' => e = .returned (.tuple #[.agg #[.int .u64 (n : Int), bkf n], .bool (known10 n)]) ∧ Below w.heap.size w w' := by
 have hmm := @run_makeMap Tryz.prog
 have s1 : ((w.alloc (Obj.cells #[Value.int IntKind.u64 0, Value.nilFunc] 69)).alloc (Obj.map #[] 0)).heap.size = w.heap.size + 1 + 1 := by simp
 have h0 : ((w.alloc (Obj.cells #[Value.int IntKind.u64 0, Value.nilFunc] 69)).alloc (Obj.map #[] 0)).heap[w.heap.size]? = some (.cells #[Value.int IntKind.u64 0, Value.nilFunc] 69 (0, 0)) := hp2_0 w _ _
 have h1 : ((w.alloc (Obj.cells #[Value.int IntKind.u64 0, Value.nilFunc] 69)).alloc (Obj.map #[] 0)).heap[w.heap.size + 1]? = some (.map #[] 0) := hp2_1 w _ _
 have hB : Below w.heap.size w ((w.alloc (Obj.cells #[Value.int IntKind.u64 0, Value.nilFunc] 69)).alloc (Obj.map #[] 0)) := .alloc (.alloc (Below.refl _ _) (Nat.le_refl _) _) (by simp) _
 have r1 : (Instr.mapUpdate 94 (.map (some (w.heap.size + 1))) (.int .u64 1) (.func (.func 47) #[] #[])).run Tryz.prog ((w.alloc (Obj.cells #[Value.int IntKind.u64 0, Value.nilFunc] 69)).alloc (Obj.map #[] 0)) = .ok () (setBlock ((w.alloc (Obj.cells #[Value.int IntKind.u64 0, Value.nilFunc] 69)).alloc (Obj.map #[] 0)) (w.heap.size + 1) (.map es1 1)) := run_ins _ (w.heap.size + 1) _ _ 1 (by decide) (.func (.func 47) #[] #[]) h1 rfl
 generalize hw1 : ((w.alloc (Obj.cells #[Value.int IntKind.u64 0, Value.nilFunc] 69)).alloc (Obj.map #[] 0)) = w1 at *
 have h2 := setBlock_at (W := w1) (b := w.heap.size + 1) (o := .map es1 1) (by omega)
 have h3 := (setBlock_ne (W := w1) (b := w.heap.size + 1) (k := w.heap.size) (o := .map es1 1) (by omega)).trans h0
 have s2 : (setBlock w1 (w.heap.size + 1) (.map es1 1)).heap.size = w.heap.size + 1 + 1 := by simpa [setBlock] using s1
 replace hB := below_setBlock (b := w.heap.size + 1) (.map es1 1) hB (by omega)
 generalize setBlock w1 (w.heap.size + 1) (.map es1 1) = w2 at *
 have r2 : (Instr.mapUpdate 94 (.map (some (w.heap.size + 1))) (.int .u64 2) (.func (.func 48) #[] #[])).run Tryz.prog w2 = .ok () (setBlock w2 (w.heap.size + 1) (.map es2 2)) := run_ins w2 (w.heap.size + 1) _ _ 2 (by decide) (.func (.func 48) #[] #[]) h2 rfl
 have h4 := setBlock_at (W := w2) (b := w.heap.size + 1) (o := .map es2 2) (by omega)
 have h5 := (setBlock_ne (W := w2) (b := w.heap.size + 1) (k := w.heap.size) (o := .map es2 2) (by omega)).trans h3
 replace hB := below_setBlock (b := w.heap.size + 1) (.map es2 2) hB (by omega)
 generalize setBlock w2 (w.heap.size + 1) (.map es2 2) = w3 at *
 have r3 := run_two n hn w3 _ _ h4
 have hF : ∀ k, (#[Value.int IntKind.u64 (n : Int), Value.func (Fn.func k) #[] #[]] : Array Value).all (·.oneCell') = true := fun k => by simp [Value.oneCell']
 have hN : (#[Value.int IntKind.u64 (n : Int), Value.nilFunc] : Array Value).all (·.oneCell') = true := by simp [Value.oneCell']
 have c0 : w3.cell? ⟨w.heap.size, 0, none⟩ = some (.int .u64 0) := by rw [cell_of_row _ _ _ _ _ _ h5]; rfl
 have c1 : w3.cell? ⟨w.heap.size, 1, none⟩ = some .nilFunc := by rw [cell_of_row _ _ _ _ _ _ h5]; rfl
 have f0 := row_frozen h5 0
 have f1 := row_frozen h5 1
 subst hw1
 clear h0 h1 h2 h3 s1 s2 h4
 obtain ⟨k, hu⟩ | hu : (∃ k, bkf n = .func (.func k) #[] #[]) ∨ bkf n = .nilFunc := by
   unfold bkf
   split
   · exact .inl ⟨_, rfl⟩
   · split
     · exact .inl ⟨_, rfl⟩
     · exact .inr rfl
 · rw [hu] at r3 ⊢
   clear hu
   have r6 := setRow_heap w3 w.heap.size _ (#[.int .u64 (n : Int), (Value.func (Fn.func k) #[] #[])]) _ _ h5
   go_enter Tryz.func30, Tryz.ntmps30
   go_wp2_with (first | (refine wpList_store_row rfl 69 _ _ rfl w.heap.size #[.int .u64 (n : Int), (Value.func (Fn.func k) #[] #[])] rfl rfl 69 _ h5 infoR rfl (hF k) ?_) | fail)
   exact bodyPost_ret (v := .tuple #[.agg #[.int .u64 (n : Int), (Value.func (Fn.func k) #[] #[])], .bool (known10 n)]) (results_cell_slot Tryz.results30 _ _ w.heap.size _ _ _ _ rfl r6 Tryz.underlying69 rfl infoR) rfl ⟨rfl, below_setRow hB (Nat.le_refl _) _⟩
 · rw [hu] at r3 ⊢
   clear hu
   have r6 := setRow_heap w3 w.heap.size _ (#[.int .u64 (n : Int), Value.nilFunc]) _ _ h5
   go_enter Tryz.func30, Tryz.ntmps30
   go_wp2_with (first | (refine wpList_store_row rfl 69 _ _ rfl w.heap.size #[.int .u64 (n : Int), Value.nilFunc] rfl rfl 69 _ h5 infoR rfl hN ?_) | fail)
   exact bodyPost_ret (v := .tuple #[.agg #[.int .u64 (n : Int), Value.nilFunc], .bool (known10 n)]) (results_cell_slot Tryz.results30 _ _ w.heap.size _ _ _ _ rfl r6 Tryz.underlying69 rfl infoR) rfl ⟨rfl, below_setRow hB (Nat.le_refl _) _⟩
end Go.Proofs.YtleeadbceljfbaaGreatDoor
namespace Go.Proofs.YtleeadbceljfbaaGreatDoor
set_option maxRecDepth 100000
def Bkt (lo b : Nat) : Prop := 64 ≤ b ∧ ∃ m j, b = m * 2 ^ j ∧ lo ≤ m ∧ m < 2 * lo
def stp (d l : Nat) : Nat := 2 ^ (l - d)
def rup (r s : Nat) : Nat := (r + s - 1) / s * s
theorem rup_mul {r s m : Nat} (hs : 0 < s) (h : r ≤ m * s) : rup r s ≤ m * s := by
 unfold rup
 refine Nat.mul_le_mul_right _ ?_
 rw [← Nat.lt_succ_iff, Nat.div_lt_iff_lt_mul hs, Nat.succ_mul]
 omega
theorem rup_ge {r s : Nat} (hs : 0 < s) : r ≤ rup r s := by
 unfold rup
 have h1 := Nat.div_add_mod (r + s - 1) s
 have h2 := Nat.mod_lt (r + s - 1) hs
 rw [Nat.mul_comm] at h1
 omega
theorem rup_dvd (r s : Nat) : ∃ m, rup r s = m * s := ⟨_, rfl⟩
theorem rup_bkt {d l r : Nat} (hd : 0 < d) (hl : d ≤ l) (h64 : 64 ≤ r) (h1 : 2 ^ (l - 1) ≤ r) (h2 : r < 2 ^ l) : Bkt (2 ^ (d - 1)) (rup r (stp d l)) := by
 have hs : 0 < stp d l := Nat.pow_pos (by decide)
 have hge := rup_ge (r := r) hs
 refine ⟨Nat.le_trans h64 hge, ?_⟩
 have e1 : 2 ^ (l - 1) = 2 ^ (d - 1) * stp d l := by unfold stp; rw [← Nat.pow_add]; congr 1; omega
 have e2 : 2 ^ l = 2 * 2 ^ (d - 1) * stp d l := by unfold stp; rw [← Nat.pow_succ', ← Nat.pow_add]; congr 1; omega
 obtain ⟨m, hm⟩ := rup_dvd r (stp d l)
 have hle : rup r (stp d l) ≤ 2 * 2 ^ (d - 1) * stp d l := rup_mul hs (by omega)
 have m1 : 2 ^ (d - 1) ≤ m := by
   refine Nat.le_of_mul_le_mul_right ?_ hs
   omega
 have m2 : m ≤ 2 * 2 ^ (d - 1) := by
   refine Nat.le_of_mul_le_mul_right ?_ hs
   omega
 rcases Nat.lt_or_ge m (2 * 2 ^ (d - 1)) with q | q
 · exact ⟨m, l - d, hm, m1, q⟩
 · obtain rfl : m = 2 * 2 ^ (d - 1) := by omega
   refine ⟨2 ^ (d - 1), l - d + 1, ?_, Nat.le_refl _, ?_⟩
   · rw [hm]; unfold stp; rw [Nat.pow_succ]
     generalize 2 ^ (d - 1) = x
     generalize 2 ^ (l - d) = y
     rw [Nat.mul_comm 2 x, Nat.mul_assoc, Nat.mul_comm 2 y]
   · have := Nat.pow_pos (n := d - 1) (show 0 < 2 by decide); omega
theorem rup_least {d l r b : Nat} (hd : 0 < d) (hl : d ≤ l) (h1 : 2 ^ (l - 1) ≤ r) (hb : Bkt (2 ^ (d - 1)) b) (h : r ≤ b) : rup r (stp d l) ≤ b := by
 obtain ⟨_, m, j, rfl, m1, m2⟩ := hb
 have hs : 0 < stp d l := Nat.pow_pos (by decide)
 rcases Nat.lt_or_ge j (l - d) with q | q
 · exfalso
   have e2 : 2 * 2 ^ (d - 1) * 2 ^ j = 2 ^ (d + j) := by rw [← Nat.pow_succ', ← Nat.pow_add]; congr 1; omega
   have h3 : m * 2 ^ j < 2 * 2 ^ (d - 1) * 2 ^ j := Nat.mul_lt_mul_of_pos_right m2 (Nat.pow_pos (by decide))
   have h4 : 2 ^ (d + j) ≤ 2 ^ (l - 1) := Nat.pow_le_pow_right (by decide) (by omega)
   omega
 · have e : m * 2 ^ j = m * 2 ^ (j - (l - d)) * stp d l := by
     unfold stp
     rw [Nat.mul_assoc, ← Nat.pow_add]; congr 2; omega
   rw [e] at h ⊢
   exact rup_mul hs h
theorem bkt_next {lo m j b : Nat} (m1 : lo ≤ m) (hb : Bkt lo b) (h : m * 2 ^ j < b) : m * 2 ^ j + 2 ^ j ≤ b := by
 obtain ⟨_, m', j', rfl, n1, n2⟩ := hb
 rcases Nat.lt_or_ge j' j with q | q
 · exfalso
   have h3 : m' * 2 ^ j' < 2 * lo * 2 ^ j' := Nat.mul_lt_mul_of_pos_right n2 (Nat.pow_pos (by decide))
   have h4 : 2 * 2 ^ j' ≤ 2 ^ j := by
     rw [← Nat.pow_succ']
     exact Nat.pow_le_pow_right (by decide) (by omega)
   have h5 : lo * (2 * 2 ^ j') ≤ m * 2 ^ j := Nat.mul_le_mul m1 h4
   have h6 : lo * (2 * 2 ^ j') = 2 * lo * 2 ^ j' := by rw [← Nat.mul_assoc, Nat.mul_comm lo 2]
   omega
 · have e : m' * 2 ^ j' = m' * 2 ^ (j' - j) * 2 ^ j := by
     rw [Nat.mul_assoc, ← Nat.pow_add]; congr 2; omega
   rw [e] at h ⊢
   have := Nat.lt_of_mul_lt_mul_right h
   rw [← Nat.succ_mul]
   exact Nat.mul_le_mul_right _ this
theorem bkt_up {lo m j : Nat} (h0 : 0 < lo) (h64 : 64 ≤ m * 2 ^ j) (m1 : lo ≤ m) (m2 : m < 2 * lo) : Bkt lo (m * 2 ^ j + 2 ^ j) := by
 refine ⟨Nat.le_trans h64 (Nat.le_add_right _ _), ?_⟩
 rcases Nat.lt_or_ge (m + 1) (2 * lo) with q | q
 · exact ⟨m + 1, j, by rw [Nat.succ_mul], by omega, q⟩
 · have e : m + 1 = 2 * lo := by omega
   refine ⟨lo, j + 1, ?_, Nat.le_refl _, by omega⟩
   rw [← Nat.succ_mul, Nat.succ_eq_add_one, e, Nat.pow_succ, Nat.mul_comm 2 lo, Nat.mul_assoc, Nat.mul_comm 2]
theorem bkt_one {lo n a b : Nat} (ha : Bkt lo a ∧ n ≤ a) (hb : Bkt lo b ∧ n ≤ b) (la : ∀ c, Bkt lo c → n ≤ c → a ≤ c) (lb : ∀ c, Bkt lo c → n ≤ c → b ≤ c) : a = b := by
 have := la b hb.1 hb.2
 have := lb a ha.1 ha.2
 omega
def Lst (lo n b : Nat) : Prop := Bkt lo b ∧ n ≤ b ∧ ∀ c, Bkt lo c → n ≤ c → b ≤ c
theorem Lst.one {lo n a b : Nat} (ha : Lst lo n a) (hb : Lst lo n b) : a = b := bkt_one ⟨ha.1, ha.2.1⟩ ⟨hb.1, hb.2.1⟩ ha.2.2 hb.2.2
theorem lst_rup {d l n : Nat} (hd : 0 < d) (hl : d ≤ l) (h1 : 2 ^ (l - 1) ≤ max n 64) (h2 : max n 64 < 2 ^ l) : Lst (2 ^ (d - 1)) n (rup (max n 64) (stp d l)) := by
 have hs : 0 < stp d l := Nat.pow_pos (by decide)
 have hge := rup_ge (r := max n 64) hs
 refine ⟨rup_bkt hd hl (Nat.le_max_right _ _) h1 h2, by have := Nat.le_max_left n 64; omega, fun c hc hn => rup_least hd hl h1 hc ?_⟩
 have := hc.1
 exact Nat.max_le.2 ⟨hn, this⟩
def bkd (d n : Nat) : Nat := rup (max n 64) (stp d (Nat.log2 (max n 64) + 1))
theorem log_ge (n : Nat) : 6 ≤ Nat.log2 (max n 64) := by
 rw [Nat.le_log2 (by have := Nat.le_max_right n 64; omega)]
 exact Nat.le_max_right n 64
theorem bkd_lst (d n : Nat) (hd : 0 < d) (h7 : d ≤ 7) : Lst (2 ^ (d - 1)) n (bkd d n) := by
 have h := log_ge n
 refine lst_rup hd (by omega) ?_ Nat.lt_log2_self
 exact Nat.log2_self_le (by have := Nat.le_max_right n 64; omega)
theorem bkd_of (d l n : Nat) (hd : 0 < d) (hl : d ≤ l) (h1 : 2 ^ (l - 1) ≤ max n 64) (h2 : max n 64 < 2 ^ l) (h7 : d ≤ 7) : rup (max n 64) (stp d l) = bkd d n := (lst_rup hd hl h1 h2).one (bkd_lst d n hd h7)
theorem rup_le (r s : Nat) : rup r s ≤ r + s := by
 unfold rup
 have := Nat.div_mul_le_self (r + s - 1) s
 omega
theorem bkd_le (d n : Nat) (hd : 0 < d) : bkd d n ≤ 2 * max n 64 := by
 unfold bkd
 have h1 := rup_le (max n 64) (stp d (Nat.log2 (max n 64) + 1))
 have h2 : stp d (Nat.log2 (max n 64) + 1) ≤ max n 64 := by
   refine Nat.le_trans (Nat.pow_le_pow_right (by decide) ?_) (Nat.log2_self_le (by have := Nat.le_max_right n 64; omega))
   omega
 omega
theorem bkd_64 (d n : Nat) (hd : 0 < d) (h7 : d ≤ 7) : 64 ≤ bkd d n := (bkd_lst d n hd h7).1.1
theorem bkd_ge (d n : Nat) (hd : 0 < d) (h7 : d ≤ 7) : n ≤ bkd d n := (bkd_lst d n hd h7).2.1
def dg (v : Nat) : Nat := if v = 1 then 1 else 4
theorem dg_pos (v : Nat) : 0 < dg v := by unfold dg; split <;> decide
theorem dg_le (v : Nat) : dg v ≤ 7 := by unfold dg; split <;> decide
end Go.Proofs.YtleeadbceljfbaaGreatDoor
namespace Go.Proofs.YtleeadbceljfbaaGreatDoor
set_option maxRecDepth 100000
open Go Go.RowKit Go.Sort
attribute [local go_sem] setCell_drewN alloc_drewN
set_option maxRecDepth 100000 in
set_option maxHeartbeats 4000000 in
theorem a_len (x : Nat) (h0 : 1 ≤ x) (hx : x < 18446744073709551616) : ∃ L : Nat, 0 < L ∧ L ≤ 64 ∧ 2 ^ (L - 1) ≤ x ∧ x < 2 ^ L ∧ Gives 79 #[.int .u64 (x : Int)] (.int .i64 (L : Int)) := by
 obtain ⟨L, g0, g1, g2, g3, g4⟩ := a_len64 x h0 hx
 refine ⟨L, g0, g1, g2, g3, fun w => ?_⟩
 clear g2 g3
 go_enter Tryz.func79, Tryz.ntmps79
 go_wp2_with (fail)
 refine (g4.at _).mono ?_
 rintro e_ w1 ⟨rfl, hb⟩
 go_wp2
 go_ret
 exact ⟨rfl, hb⟩
theorem kw (L d k : Nat) (hk : stp d L = k) : (2 : Int) ^ (L - d) = (k : Int) := by rw [← hk, stp, Int.natCast_pow]; rfl
theorem kr (L d k : Nat) (hk : stp d L = k) (hk1 : k ≤ 1152921504606846976) : wrap64 ((2 : Int) ^ (L - d)) = (k : Int) := by
 rw [kw L d k hk]; exact IntWalk.wrap64_in _ ⟨by omega, by omega⟩
theorem stp_le {L d : Nat} (h : L - d ≤ 60) : stp d L ≤ 1152921504606846976 := Nat.le_trans (Nat.pow_le_pow_right (by decide) h) (by decide)
theorem rup_wrap (r k : Nat) (hr : r ≤ 1152921504606846976) (hk1 : k ≤ 1152921504606846976) : wrap64 (wrap64 (((r + k - 1) / k : Nat) : Int) * (k : Int)) = (rup r k : Int) := by
 have h1 : (r + k - 1) / k ≤ r + k - 1 := Nat.div_le_self _ _
 have h2 := Nat.div_mul_le_self (r + k - 1) k
 unfold rup
 generalize (r + k - 1) / k = q at *
 rw [IntWalk.wrap64_in (q : Int) ⟨by omega, by omega⟩, ← Int.natCast_mul]
 exact IntWalk.wrap64_in _ ⟨by omega, by omega⟩
theorem len_bd {L r : Nat} (h64 : 64 ≤ r) (hr : r ≤ 1152921504606846976) (g2 : 2 ^ (L - 1) ≤ r) (g3 : r < 2 ^ L) : 7 ≤ L ∧ L ≤ 61 := by
 constructor
 · rcases Nat.lt_or_ge L 7 with q | q
   · exfalso
     have : 2 ^ L ≤ 2 ^ 6 := Nat.pow_le_pow_right (by decide) (by omega)
     have : (2 : Nat) ^ 6 = 64 := by decide
     omega
   · exact q
 · rcases Nat.lt_or_ge 61 L with q | q
   · exfalso
     have h : 2 ^ 61 ≤ 2 ^ (L - 1) := Nat.pow_le_pow_right (by decide) (by omega)
     have h' : (2 : Nat) ^ 61 ≤ 1152921504606846976 := Nat.le_trans h (Nat.le_trans g2 hr)
     exact absurd h' (by decide)
   · exact q
set_option maxRecDepth 100000 in
set_option maxHeartbeats 4000000 in
theorem a_roundUp (d n : Nat) (hd : 0 < d) (h7 : d ≤ 7) (hn : n ≤ 1152921504606846976) : Gives 63 #[.int .i64 (n : Int), .int .i64 (d : Int)] (.int .i64 (bkd d n : Int)) := by
 intro w
 have hm : (64 : Nat) ≤ max n 64 := Nat.le_max_right n 64
 have hm2 : max n 64 ≤ 1152921504606846976 := Nat.max_le.2 ⟨hn, by decide⟩
 obtain ⟨L, g0, g1, g2, g3, g4⟩ := a_len (max n 64) (by omega) (by omega)
 obtain ⟨hL, hL2⟩ := len_bd hm hm2 g2 g3
 have key := bkd_of d L n hd (by omega) g2 g3 h7
 obtain ⟨k, hk⟩ : ∃ k, stp d L = k := ⟨_, rfl⟩
 have hk1 : k ≤ 1152921504606846976 := by rw [← hk]; exact stp_le (by omega)
 have hk0 : 0 < k := by rw [← hk]; exact Nat.pow_pos (by decide)
 have hwr := kr L d k hk hk1
 rw [hk] at key
 clear g2 g3 hm hm2 hk
 have hz : ¬ (k : Int) = 0 := by omega
 rcases Nat.lt_or_ge n 64 with q | q
 · rw [Nat.max_eq_right (by omega)] at g4 key
   replace g4 : Gives 79 #[.int .u64 64] (.int .i64 (L : Int)) := g4
   have hq : ¬ (64 : Int) ≤ (n : Int) := by omega
   have fin := rup_wrap 64 k (by decide) hk1
   obtain ⟨z, hz2⟩ : ∃ z : Int, (((64 + k - 1) / k : Nat) : Int) = z := ⟨_, rfl⟩
   have hdv : ((64 : Int) + (k : Int) - 1).tdiv (k : Int) = z := by
     rw [← hz2, Int.tdiv_eq_ediv_of_nonneg (by omega), Int.natCast_ediv]
     congr 1
     omega
   rw [key, hz2] at fin
   clear key hz2 hd
   go_enter Tryz.func63, Tryz.ntmps63
   go_wp2_with (fail)
   · refine (g4.at _).mono ?_
     rintro e_ w1 ⟨rfl, hb⟩
     go_wp2
     go_ret
     exact ⟨by rw [fin]; rfl, hb⟩
 · rw [Nat.max_eq_left (by omega)] at g4 key
   have hq : (64 : Int) ≤ (n : Int) := by omega
   have fin := rup_wrap n k hn hk1
   obtain ⟨z, hz2⟩ : ∃ z : Int, (((n + k - 1) / k : Nat) : Int) = z := ⟨_, rfl⟩
   have hdv : ((n : Int) + (k : Int) - 1).tdiv (k : Int) = z := by
     rw [← hz2, Int.tdiv_eq_ediv_of_nonneg (by omega), Int.natCast_ediv]
     congr 1
     omega
   rw [key, hz2] at fin
   clear key hz2 hd
   go_enter Tryz.func63, Tryz.ntmps63
   go_wp2_with (fail)
   · refine (g4.at _).mono ?_
     rintro e_ w1 ⟨rfl, hb⟩
     go_wp2
     go_ret
     exact ⟨by rw [fin]; rfl, hb⟩
set_option maxRecDepth 100000 in
set_option maxHeartbeats 4000000 in
theorem a_powers (n : Nat) (hn : n ≤ 1152921504606846976) : Gives 47 #[.int .i64 (n : Int)] (.int .i64 (bkd 1 n : Int)) := by
 intro w
 have g4 : Gives 63 #[.int .i64 (n : Int), .int .i64 1] (.int .i64 (bkd 1 n : Int)) := a_roundUp 1 n (by decide) (by decide) hn
 generalize bkd 1 n = b at *
 go_enter Tryz.func47, Tryz.ntmps47
 go_wp2_with (fail)
 refine (g4.at _).mono ?_
 rintro e_ w1 ⟨rfl, hb⟩
 go_wp2
 go_ret
 exact ⟨rfl, hb⟩
set_option maxRecDepth 100000 in
set_option maxHeartbeats 4000000 in
theorem a_eighths (n : Nat) (hn : n ≤ 1152921504606846976) : Gives 48 #[.int .i64 (n : Int)] (.int .i64 (bkd 4 n : Int)) := by
 intro w
 have g4 : Gives 63 #[.int .i64 (n : Int), .int .i64 4] (.int .i64 (bkd 4 n : Int)) := a_roundUp 4 n (by decide) (by decide) hn
 generalize bkd 4 n = b at *
 go_enter Tryz.func48, Tryz.ntmps48
 go_wp2_with (fail)
 refine (g4.at _).mono ?_
 rintro e_ w1 ⟨rfl, hb⟩
 go_wp2
 go_ret
 exact ⟨rfl, hb⟩
def bkn (v : Nat) : FuncId := if v = 1 then 47 else 48
theorem bkf_known {v : Nat} (h : known10 v = true) : bkf v = .func (.func (bkn v)) #[] #[] := by
 unfold known10 at h
 unfold bkf bkn
 rcases Nat.decEq v 1 with h1 | rfl
 · rcases Nat.decEq v 2 with h2 | rfl
   · simp [h1, h2] at h
   · rfl
 · rfl
theorem a_bkn (v n : Nat) (hn : n ≤ 1152921504606846976) : Gives (bkn v) #[.int .i64 (n : Int)] (.int .i64 (bkd (dg v) n : Int)) := by
 unfold bkn dg
 split
 · exact a_powers n hn
 · exact a_eighths n hn
set_option maxRecDepth 100000 in
set_option maxHeartbeats 4000000 in
theorem a_bucketOf (v n : Nat) (h : known10 v = true) (hn : n ≤ 1152921504606846000) : Gives 31 #[.agg #[.int .u64 (v : Int), bkf v], .int .i64 (n : Int)] (.int .i64 (bkd (dg v) (4 + n) : Int)) := by
 intro w
 have g4 := a_bkn v (4 + n) (by omega)
 rw [bkf_known h]
 generalize bkd (dg v) (4 + n) = b at *
 rw [show ((4 + n : Nat) : Int) = 4 + (n : Int) by omega] at g4
 obtain ⟨f, hf, hv⟩ : ∃ f, bkn v = f ∧ (f = 47 ∨ f = 48) := ⟨_, rfl, by unfold bkn; split <;> simp⟩
 rw [hf] at g4 ⊢
 clear h hf
 have hbl : ∀ o, Below w.heap.size w (w.alloc o) := fun o => (Below.refl _ _).alloc (Nat.le_refl _) _
 rcases hv with rfl | rfl
 all_goals
   go_enter Tryz.func31, Tryz.ntmps31
   go_wp2_with (fail)
   refine (g4.at _).mono ?_
   rintro e_ w1 ⟨rfl, hb⟩
   replace hb := (hbl _).trans (hb.mono (by simp))
   go_wp2
   go_ret
   exact ⟨rfl, hb⟩
def bke (v : Nat) (n : Int) : Int := if known10 v then (if n < 0 then 1 else if 1048576 < n then 2 else 0) else 100
def bko (v : Nat) (n : Int) : Int := if bke v n = 0 then (bkd (dg v) (4 + n.toNat) : Int) else 0
end Go.Proofs.YtleeadbceljfbaaGreatDoor
namespace Go.Proofs.YtleeadbceljfbaaGreatDoor
set_option maxRecDepth 100000
open Go Go.RowKit Go.Sort
attribute [local go_sem] setCell_drewN alloc_drewN
theorem ver_nat (ver : Int) : ∃ v : Nat, IntKind.wrap .u64 ver = (v : Int) ∧ v < 18446744073709551616 := by
 refine ⟨(ver % 18446744073709551616).toNat, ?_, by omega⟩
 show ver % 18446744073709551616 = _
 omega
theorem bkf_not {v : Nat} (h : known10 v = false) : bkf v = .nilFunc := by
 unfold known10 at h
 unfold bkf
 rcases Nat.decEq v 1 with h1 | rfl
 · rcases Nat.decEq v 2 with h2 | rfl
   · simp [h1, h2]
   · simp at h
 · simp at h
theorem oneF (x : Int) (k : FuncId) : (#[Value.int IntKind.u64 x, Value.func (Fn.func k) #[] #[]] : Array Value).all (·.oneCell') = true := by simp [Value.oneCell']
theorem oneN (x : Int) : (#[Value.int IntKind.u64 x, Value.nilFunc] : Array Value).all (·.oneCell') = true := by simp [Value.oneCell']
set_option maxRecDepth 100000 in
set_option maxHeartbeats 4000000 in
theorem a_Bucket (ver : Int) (v : Nat) (hv : IntKind.wrap .u64 ver = (v : Int)) (hv2 : v < 18446744073709551616) (n : Int) : Gives 14 #[.int .i64 ver, .int .i64 n] (.tuple #[.int .i64 (bko v n), .int .i64 (bke v n)]) := by
 intro w
 have c1 := a_rulesOf v hv2 w
 rcases hk : known10 v
 · rw [hk, bkf_not hk] at c1
   have e1 : bke v n = 100 := by unfold bke; simp [hk]
   have e2 : bko v n = 0 := by unfold bko; simp [e1]
   rw [e1, e2]
   clear e1 e2 hk
   go_enter Tryz.func14, Tryz.ntmps14
   go_wp2_with (first | (simp only [hv]) | fail)
   refine c1.mono ?_
   rintro e_ w1 ⟨rfl, hb⟩
   clear c1
   have r0 := hp1_0 w1 (.cells #[Value.int IntKind.u64 0, Value.nilFunc] 69)
   have hb2 := hb.alloc (by have := hb.size; omega) (.cells #[Value.int IntKind.u64 0, Value.nilFunc] 69)
   have hb3 := below_setRow (g := w1.heap.size) hb2 (by have := hb.size; omega) #[Value.int IntKind.u64 (v : Int), Value.nilFunc]
   clear hb hb2
   go_wp2_with (first | (refine wpList_store_row rfl 69 _ _ rfl w1.heap.size #[.int .u64 (v : Int), Value.nilFunc] rfl rfl 69 _ r0 infoR rfl (oneN _) ?_) | fail)
   go_ret2
   exact ⟨rfl, hb3⟩
 · rw [hk, bkf_known hk] at c1
   go_enter Tryz.func14, Tryz.ntmps14
   go_wp2_with (first | (simp only [hv]) | fail)
   refine c1.mono ?_
   rintro e_ w1 ⟨rfl, hb⟩
   clear c1
   have r0 := hp1_0 w1 (.cells #[Value.int IntKind.u64 0, Value.nilFunc] 69)
   have hb2 := hb.alloc (by have := hb.size; omega) (.cells #[Value.int IntKind.u64 0, Value.nilFunc] 69)
   have hb3 := below_setRow (g := w1.heap.size) hb2 (by have := hb.size; omega) #[Value.int IntKind.u64 (v : Int), Value.func (Fn.func (bkn v)) #[] #[]]
   have r1 := setRow_heap _ w1.heap.size _ (#[.int .u64 (v : Int), Value.func (Fn.func (bkn v)) #[] #[]]) _ _ r0
   clear hb hb2
   rcases Int.lt_or_le n 0 with q | q
   · have e1 : bke v n = 1 := by unfold bke; simp [hk, q]
     have e2 : bko v n = 0 := by unfold bko; simp [e1]
     go_wp2_with (first | (refine wpList_store_row rfl 69 _ _ rfl w1.heap.size #[.int .u64 (v : Int), Value.func (Fn.func (bkn v)) #[] #[]] rfl rfl 69 _ r0 infoR rfl (oneF _ _) ?_) | fail)
     go_ret2
     exact ⟨by rw [e1, e2]; rfl, hb3⟩
   · rcases Int.lt_or_le 1048576 n with q2 | q2
     · have e1 : bke v n = 2 := by unfold bke; simp [hk, q2]; omega
       have e2 : bko v n = 0 := by unfold bko; simp [e1]
       go_wp2_with (first | (refine wpList_store_row rfl 69 _ _ rfl w1.heap.size #[.int .u64 (v : Int), Value.func (Fn.func (bkn v)) #[] #[]] rfl rfl 69 _ r0 infoR rfl (oneF _ _) ?_) | fail)
       go_ret2
       exact ⟨by rw [e1, e2]; rfl, hb3⟩
     · obtain ⟨m, rfl⟩ : ∃ m : Nat, n = (m : Int) := ⟨n.toNat, by omega⟩
       have e1 : bke v (m : Int) = 0 := by unfold bke; simp [hk]; omega
       have e2 : bko v (m : Int) = (bkd (dg v) (4 + m) : Int) := by unfold bko; simp [e1]
       have c2 := a_bucketOf v m hk (by omega)
       rw [bkf_known hk] at c2
       generalize bkd (dg v) (4 + m) = b at *
       generalize bkn v = f at *
       clear hk
       go_wp2_with (first | (refine wpList_store_row rfl 69 _ _ rfl w1.heap.size #[.int .u64 (v : Int), Value.func (Fn.func f) #[] #[]] rfl rfl 69 _ r0 infoR rfl (oneF _ _) ?_) | (refine wpList_load_want rfl 69 _ rfl w1.heap.size rfl 69 #[.int .u64 (v : Int), Value.func (Fn.func f) #[] #[]] (0, 0) _ r1 Tryz.underlying69 rfl infoR ?_) | fail)
       refine (c2.at _).mono ?_
       rintro e_ w2 ⟨rfl, hb⟩
       replace hb3 := Below.after hb3 hb
       go_wp2
       go_ret2
       exact ⟨by rw [e1, e2]; rfl, hb3⟩
end Go.Proofs.YtleeadbceljfbaaGreatDoor
