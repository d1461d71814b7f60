import Derived.ProofKit
import Derived.OpenShut
import Derived.Test.YtlbndkfllegacaaGreatDoorProg
import Derived.WalkKit
import Derived.LaidEql
import Derived.Stop.Asserts
import Derived.RowKitTokens
import Derived.WalkSpells
import Derived.WalkLawsBesides
import Derived.Lib.QuietBelow
import Derived.BigQuiet
import Derived.Laws.CopyOwn
import Derived.Tactics
import Derived.Laws.Rows
import Derived.RegionTactic
namespace Go.Proofs.YtlbndkfllegacaaGreatDoor
set_option maxRecDepth 100000
open Go Go.ChangeShapes Go.WideShapes Go.ChangeAt Go.RowKit
/-! An array of integers that comes in by value. -/
section
variable {P : Program} {H : Type} {enc : TypeId × Value → H} {w : World}
theorem u8_of_wf {x : Int} (h : (Lit.int .u8 x).wf = true) : 0 ≤ x ∧ x < 256 := by
 have := bounds_u8 h
 omega
end
end Go.Proofs.YtlbndkfllegacaaGreatDoor
namespace Go.Proofs.YtlbndkfllegacaaGreatDoor
set_option maxRecDepth 100000
open Go Go.RowKit Go.Extern.Stop Go.Stop Go.Extern
theorem as_valueOf27 (t : Addr) (w : World) : (ReflectliteValue.unpack (.iface 87 (.pointer (some t)))).run Tryz.prog w
   = .ok (.agg #[.pointer (some ⟨4, 87, none⟩), .pointer (some ⟨w.heap.size, 0, none⟩), .int .u64 150]) (w.alloc (.cells #[.pointer (some t)] 87)) := by kernel_rfl
theorem as_type27 (a : Addr) (w : World) : (ReflectliteValue.methodAny (ReflectliteValue.valueError "reflectlite.Value.Type" 0) (fun t _ _ _ => ReflectliteType.toType t) #[.agg #[.pointer (some ⟨4, 87, none⟩), .pointer (some a), .int .u64 150]]).run Tryz.prog w
   = .ok (.iface 170 (.agg #[.pointer (some ⟨4, 87, none⟩)])) w := by kernel_rfl
theorem as_methodKind (h : Value) (w : World) : (Go.method 394 170 (.agg #[h]) "Kind").run Tryz.prog w = .ok (193, h) w := by kernel_rfl
theorem as_kind27 (w : World) : ((ReflectliteType.abiMethod fun t => (fun a : Nat => Value.int IntKind.u8 (a : Int)) <$> Rtype.kind t) #[.pointer (some ⟨4, 87, none⟩)]).run Tryz.prog w = .ok (.int .u8 22) w := by kernel_rfl
theorem as_kind25 (w : World) : ((ReflectliteType.abiMethod fun t => (fun a : Nat => Value.int IntKind.u8 (a : Int)) <$> Rtype.kind t) #[.pointer (some ⟨4, 85, none⟩)]).run Tryz.prog w = .ok (.int .u8 22) w := by kernel_rfl
theorem as_rlm (z : Sem Value) (f : TypeId → Addr → Nat → Nat → Sem Value) (v : Value) :
   ReflectliteValue.method z f #[v] = (do match ← ReflectliteValue.parts v with | none => z | some (t, a, fl) => f t a fl (fl % 32)) := rfl
theorem as_parts27 (a : Addr) (w : World) : (ReflectliteValue.parts (.agg #[.pointer (some ⟨4, 87, none⟩), .pointer (some a), .int .u64 150])).run Tryz.prog w = .ok (some (87, a, 150)) w := by kernel_rfl
theorem as_isNil27 (a p : Addr) (W : World) (ha : W.cell? a = some (.pointer (some p))) :
   (ReflectliteValue.method (ReflectliteValue.valueError "reflectlite.Value.IsNil" 0) ReflectliteValue.isNil #[.agg #[.pointer (some ⟨4, 87, none⟩), .pointer (some a), .int .u64 150]]).run Tryz.prog W = .ok (.bool false) W := by
 rw [as_rlm]
 simp only [Sem.run_bind, as_parts27, Result.andThen]
 simp [ReflectliteValue.isNil, loadVar, isAgg, underlying, Tryz.underlying87, ha, Result.andThen]
theorem as_methodElem (h : Value) (w : World) : (Go.method 394 170 (.agg #[h]) "Elem").run Tryz.prog w = .ok (207, .agg #[h]) w := by kernel_rfl
theorem as_methodImplements (h : Value) (w : World) : (Go.method 394 170 (.agg #[h]) "Implements").run Tryz.prog w = .ok (208, .agg #[h]) w := by kernel_rfl
theorem as_methodAssignableTo (h : Value) (w : World) : (Go.method 394 170 (.agg #[h]) "AssignableTo").run Tryz.prog w = .ok (205, .agg #[h]) w := by kernel_rfl
theorem as_elem27 (w : World) : (ReflectliteType.method ReflectliteType.elem #[.agg #[.pointer (some ⟨4, 87, none⟩)]]).run Tryz.prog w = .ok (.iface 170 (.agg #[.pointer (some ⟨4, 85, none⟩)])) w := by kernel_rfl
theorem as_implements25 (w : World) : (ReflectliteType.relation "Implements" ReflectliteType.implements_ #[.agg #[.pointer (some ⟨4, 85, none⟩)], .iface 170 (.agg #[.pointer (some ⟨4, 30, none⟩)])]).run Tryz.prog w = .ok (.bool true) w := by kernel_rfl
theorem as_typeOf25 (v : Value) (w : World) : (ReflectliteType.typeOf #[.iface 85 v]).run Tryz.prog w = .ok (.iface 170 (.agg #[.pointer (some ⟨4, 85, none⟩)])) w := by kernel_rfl
theorem as_assignable25 (w : World) : (ReflectliteType.relation "AssignableTo" ReflectliteType.assignableTo #[.agg #[.pointer (some ⟨4, 85, none⟩)], .iface 170 (.agg #[.pointer (some ⟨4, 85, none⟩)])]).run Tryz.prog w = .ok (.bool true) w := by kernel_rfl
theorem as_valueOf25 (e : Addr) (w : World) : (ReflectliteValue.unpack (.iface 85 (.pointer (some e)))).run Tryz.prog w
   = .ok (.agg #[.pointer (some ⟨4, 85, none⟩), .pointer (some ⟨w.heap.size, 0, none⟩), .int .u64 150]) (w.alloc (.cells #[.pointer (some e)] 85)) := by kernel_rfl
theorem as_elemOf27 (w : World) : (Rtype.elem? 87).run Tryz.prog w = .ok (some 85) w := by kernel_rfl
theorem as_mk25 (p : Addr) (w : World) : (ReflectliteValue.mk 85 p ReflectliteValue.flagAddr).run Tryz.prog w = .ok (.agg #[.pointer (some ⟨4, 85, none⟩), .pointer (some p), .int .u64 406]) w := by kernel_rfl
theorem as_elemV27 (a p : Addr) (W : World) (ha : W.cell? a = some (.pointer (some p))) :
   (ReflectliteValue.method (ReflectliteValue.valueError "reflectlite.Value.Elem" 0) ReflectliteValue.elem #[.agg #[.pointer (some ⟨4, 87, none⟩), .pointer (some a), .int .u64 150]]).run Tryz.prog W
     = .ok (.agg #[.pointer (some ⟨4, 85, none⟩), .pointer (some p), .int .u64 406]) W := by
 rw [as_rlm]
 simp only [Sem.run_bind, as_parts27, Result.andThen]
 simp [ReflectliteValue.elem, loadVar, isAgg, underlying, Tryz.underlying87, ha, Result.andThen, as_elemOf27, as_mk25]
theorem as_rls (v x : Value) : ReflectliteValue.set #[v, x] = (do
   let (some (dst, a, fl), some (src, b, _)) := (← ReflectliteValue.parts v, ← ReflectliteValue.parts x)
     | unsupported (.noEntry "extern/(internal/reflectlite.Value).Set.zeroValue")
   if fl / ReflectliteValue.flagAddr % 2 == 0 then unsupported (.noEntry "extern/(internal/reflectlite.Value).Set.unaddressable")
   let val ← loadVar src b
   if ← Rtype.directlyAssignable dst src then storeVar dst a val
   else if ← Rtype.implements dst src then
     if (← Rtype.kind src) == 20 then
       match val with
       | .nilIface => unsupported (.noEntry "extern/reflectlite: a nil value of one interface type handed on as a value of another")
       | _ => storeVar dst a val
     else storeVar dst a (.iface src val)
   else panicString ("reflectlite.Set: value of type " ++ (← Rtype.spelt src) ++ " is not assignable to type " ++ (← Rtype.spelt dst))
   pure (.tuple #[])) := rfl
theorem as_parts25a (a : Addr) (w : World) : (ReflectliteValue.parts (.agg #[.pointer (some ⟨4, 85, none⟩), .pointer (some a), .int .u64 406])).run Tryz.prog w = .ok (some (85, a, 406)) w := by kernel_rfl
theorem as_parts25 (a : Addr) (w : World) : (ReflectliteValue.parts (.agg #[.pointer (some ⟨4, 85, none⟩), .pointer (some a), .int .u64 150])).run Tryz.prog w = .ok (some (85, a, 150)) w := by kernel_rfl
theorem as_direct25 (w : World) : (Rtype.directlyAssignable 85 85).run Tryz.prog w = .ok true w := by kernel_rfl
theorem as_set25 (ta b e : Addr) (old : Value) (W : World) (hb : W.cell? b = some (.pointer (some e))) (ht : W.cell? ta = some old) (hf : W.frozen? ta = false) :
   (ReflectliteValue.set #[.agg #[.pointer (some ⟨4, 85, none⟩), .pointer (some ta), .int .u64 406], .agg #[.pointer (some ⟨4, 85, none⟩), .pointer (some b), .int .u64 150]]).run Tryz.prog W
     = .ok (.tuple #[]) (W.setCell ta (.pointer (some e))) := by
 rw [as_rls]
 simp only [Sem.run_bind, as_parts25a, as_parts25, Result.andThen]
 simp [ReflectliteValue.flagAddr, loadVar, isAgg, underlying, Tryz.underlying85, hb, Result.andThen, as_direct25, storeVar, Value.cells, storeCells, Addr.add]
 rw [run_store Tryz.prog W ta _ _ (by rfl)]
 simp [ht, hf]
set_option maxHeartbeats 4000000 in
theorem as_hit (e t : Addr) (old : Value) (w : World) (hg : w.cell? ⟨0, 0, none⟩ = some (.iface 170 (.agg #[.pointer (some ⟨4, 30, none⟩)]))) (ht0 : w.cell? t = some old) (hf0 : w.frozen? t = false) :
   Calls Tryz.prog 33 #[.iface 85 (.pointer (some e)), .iface 87 (.pointer (some t))] w fun ev w' => ev = .returned (.bool true) ∧ w' = ((((w.alloc (.cells #[.pointer (some t)] 87)).alloc (.cells #[.pointer (some ⟨4, 87, none⟩), .pointer (some ⟨w.heap.size, 0, none⟩), .int .u64 150] 127)).alloc (.cells #[.pointer (some ⟨4, 87, none⟩), .pointer (some ⟨w.heap.size, 0, none⟩), .int .u64 150] 127)).alloc (.cells #[.pointer (some e)] 85)).setCell t (.pointer (some e)) := by
 have h6 := @run_callFunc_extern Tryz.prog 62 _ (fun args => ReflectliteValue.unpack (args.getD 0 (.tuple #[]))) Tryz.func62 (by kernel_rfl) (by kernel_rfl) (by kernel_rfl) (by kernel_rfl)
 have h7 := @run_callFunc_extern Tryz.prog 63 _ (ReflectliteValue.methodAny (ReflectliteValue.valueError "reflectlite.Value.Type" 0) (fun t _ _ _ => ReflectliteType.toType t)) Tryz.func63 (by kernel_rfl) (by kernel_rfl) (by kernel_rfl) (by kernel_rfl)
 have h8 := @run_callFunc_extern Tryz.prog 64 _ (ReflectliteValue.method (ReflectliteValue.valueError "reflectlite.Value.IsNil" 0) ReflectliteValue.isNil) Tryz.func64 (by kernel_rfl) (by kernel_rfl) (by kernel_rfl) (by kernel_rfl)
 have h27 := @run_callFunc_extern Tryz.prog 193 _ (ReflectliteType.abiMethod fun t => do pure (.int .u8 (← Rtype.kind t))) Tryz.func193 (by kernel_rfl) (by kernel_rfl) (by kernel_rfl) (by kernel_rfl)
 have h37 := @run_callFunc_extern Tryz.prog 207 _ (ReflectliteType.method ReflectliteType.elem) Tryz.func207 (by kernel_rfl) (by kernel_rfl) (by kernel_rfl) (by kernel_rfl)
 have h38 := @run_callFunc_extern Tryz.prog 208 _ (ReflectliteType.relation "Implements" ReflectliteType.implements_) Tryz.func208 (by kernel_rfl) (by kernel_rfl) (by kernel_rfl) (by kernel_rfl)
 have h10 := @run_callFunc_extern Tryz.prog 91 _ ReflectliteType.typeOf Tryz.func91 (by kernel_rfl) (by kernel_rfl) (by kernel_rfl) (by kernel_rfl)
 have h35 := @run_callFunc_extern Tryz.prog 205 _ (ReflectliteType.relation "AssignableTo" ReflectliteType.assignableTo) Tryz.func205 (by kernel_rfl) (by kernel_rfl) (by kernel_rfl) (by kernel_rfl)
 have h11 := @run_callFunc_extern Tryz.prog 92 _ (ReflectliteValue.method (ReflectliteValue.valueError "reflectlite.Value.Elem" 0) ReflectliteValue.elem) Tryz.func92 (by kernel_rfl) (by kernel_rfl) (by kernel_rfl) (by kernel_rfl)
 have h12 := @run_callFunc_extern Tryz.prog 93 _ ReflectliteValue.set Tryz.func93 (by kernel_rfl) (by kernel_rfl) (by kernel_rfl) (by kernel_rfl)
 have tO := as_typeOf25
 have mA := as_methodAssignableTo
 have a25 := as_assignable25
 have v25 := as_valueOf25
 have f6 := as_valueOf27
 have f7 := as_type27
 have mK := as_methodKind
 have mE := as_methodElem
 have mI := as_methodImplements
 have k27 := as_kind27
 have k25 := as_kind25
 have e27 := as_elem27
 have i25 := as_implements25
 have n8 := as_isNil27 ⟨w.heap.size, 0, none⟩ t ((w.alloc (.cells #[.pointer (some t)] 87)).alloc (.cells #[.pointer (some ⟨4, 87, none⟩), .pointer (some ⟨w.heap.size, 0, none⟩), .int .u64 150] 127)) (by simp)
 have hlt : 0 < w.heap.size := by
   rcases Nat.lt_or_ge 0 w.heap.size with h | h
   · exact h
   · simp [World.cell?, Array.getElem?_eq_none h] at hg
 have hg2 : ((w.alloc (.cells #[.pointer (some t)] 87)).alloc (.cells #[.pointer (some ⟨4, 87, none⟩), .pointer (some ⟨w.heap.size, 0, none⟩), .int .u64 150] 127)).cell? ⟨0, 0, none⟩ = some (.iface 170 (.agg #[.pointer (some ⟨4, 30, none⟩)])) := by
   rw [World.cell?_alloc_lt _ _ ⟨0, 0, none⟩ (by simp <;> omega), World.cell?_alloc_lt _ _ ⟨0, 0, none⟩ hlt]; exact hg
 have htl : t.block < w.heap.size := by
   rcases Nat.lt_or_ge t.block w.heap.size with h | h
   · exact h
   · simp [World.cell?, Array.getElem?_eq_none h] at ht0
 have el := as_elemV27 ⟨w.heap.size, 0, none⟩ t (((w.alloc (.cells #[.pointer (some t)] 87)).alloc (.cells #[.pointer (some ⟨4, 87, none⟩), .pointer (some ⟨w.heap.size, 0, none⟩), .int .u64 150] 127)).alloc (.cells #[.pointer (some ⟨4, 87, none⟩), .pointer (some ⟨w.heap.size, 0, none⟩), .int .u64 150] 127)) (by rw [World.cell?_alloc_lt _ _ ⟨w.heap.size, 0, none⟩ (by simp; omega)]; simp)
 have st := as_set25 t ⟨w.heap.size + 1 + 1 + 1, 0, none⟩ e old ((((w.alloc (.cells #[.pointer (some t)] 87)).alloc (.cells #[.pointer (some ⟨4, 87, none⟩), .pointer (some ⟨w.heap.size, 0, none⟩), .int .u64 150] 127)).alloc (.cells #[.pointer (some ⟨4, 87, none⟩), .pointer (some ⟨w.heap.size, 0, none⟩), .int .u64 150] 127)).alloc (.cells #[.pointer (some e)] 85))
   (by rw [World.cell?_alloc_at _ _ _ _ (by simp)]; rfl)
   (by rw [World.cell?_alloc_lt _ _ t (by simp; omega), World.cell?_alloc_lt _ _ t (by simp; omega), World.cell?_alloc_lt _ _ t (by simp; omega), World.cell?_alloc_lt _ _ t htl]; exact ht0)
   (by rw [World.frozen?_alloc_old _ _ t (by simp; omega), World.frozen?_alloc_old _ _ t (by simp; omega), World.frozen?_alloc_old _ _ t (by simp; omega), World.frozen?_alloc_old _ _ t (Nat.ne_of_lt htl)]; exact hf0)
 go_enter Tryz.func33, Tryz.ntmps33
 go_wp2
 refine wp_loop_rounds 1 ?_
 rw [rounds_succ]
 go_wp2
 go_ret
 exact ⟨rfl, rfl⟩
def Ety (w : World) : Prop := w.cell? ⟨0, 0, none⟩ = some (.iface 170 (.agg #[.pointer (some ⟨4, 30, none⟩)]))
end Go.Proofs.YtlbndkfllegacaaGreatDoor
namespace Go.Proofs.YtlbndkfllegacaaGreatDoor
set_option maxRecDepth 100000
open Go.RowKit Go.Sort
/-! Worlds: a whole row stored into a block that the call itself has laid. -/
theorem setCell_drewN (w : World) (n : Nat) (a : Addr) (v : Value) : (w.drewN n).setCell a v = (w.setCell a v).drewN n := rfl
theorem alloc_drewN (w : World) (n : Nat) (o : Obj) : (w.drewN n).alloc o = (w.alloc o).drewN n := rfl
theorem below_drN {B : Nat} {a w : World} (h : Below B a w) (n : Nat) : Below B a (w.drewN n) := ⟨h.os, h.tape, h.output, h.size, h.block⟩
/-! The blocks that a call has laid, by their places. -/
theorem hp1_0 (w : World) (o0 : Obj) : (w.alloc o0).heap[w.heap.size]? = some o0 := by
 show (w.heap.push o0)[w.heap.size]? = _
 rw [Array.getElem?_push, if_pos rfl]
theorem hp2_0 (w : World) (o0 o1 : Obj) : ((w.alloc o0).alloc o1).heap[w.heap.size]? = some o0 := by
 show ((w.heap.push o0).push o1)[w.heap.size]? = _
 rw [Array.getElem?_push, if_neg (by simp only [Array.size_push]; omega)]
 rw [Array.getElem?_push, if_pos rfl]
theorem hp2_1 (w : World) (o0 o1 : Obj) : ((w.alloc o0).alloc o1).heap[w.heap.size + 1]? = some o1 := by
 show ((w.heap.push o0).push o1)[w.heap.size + 1]? = _
 rw [Array.getElem?_push, if_pos (by simp only [Array.size_push])]
theorem hp3_0 (w : World) (o0 o1 o2 : Obj) : (((w.alloc o0).alloc o1).alloc o2).heap[w.heap.size]? = some o0 := by
 show (((w.heap.push o0).push o1).push o2)[w.heap.size]? = _
 rw [Array.getElem?_push, if_neg (by simp only [Array.size_push]; omega)]
 rw [Array.getElem?_push, if_neg (by simp only [Array.size_push]; omega)]
 rw [Array.getElem?_push, if_pos rfl]
theorem hp3_1 (w : World) (o0 o1 o2 : Obj) : (((w.alloc o0).alloc o1).alloc o2).heap[w.heap.size + 1]? = some o1 := by
 show (((w.heap.push o0).push o1).push o2)[w.heap.size + 1]? = _
 rw [Array.getElem?_push, if_neg (by simp only [Array.size_push]; omega)]
 rw [Array.getElem?_push, if_pos (by simp only [Array.size_push])]
theorem hp3_2 (w : World) (o0 o1 o2 : Obj) : (((w.alloc o0).alloc o1).alloc o2).heap[w.heap.size + 1 + 1]? = some o2 := by
 show (((w.heap.push o0).push o1).push o2)[w.heap.size + 1 + 1]? = _
 rw [Array.getElem?_push, if_pos (by simp only [Array.size_push])]
theorem hp4_0 (w : World) (o0 o1 o2 o3 : Obj) : ((((w.alloc o0).alloc o1).alloc o2).alloc o3).heap[w.heap.size]? = some o0 := by
 show ((((w.heap.push o0).push o1).push o2).push o3)[w.heap.size]? = _
 rw [Array.getElem?_push, if_neg (by simp only [Array.size_push]; omega)]
 rw [Array.getElem?_push, if_neg (by simp only [Array.size_push]; omega)]
 rw [Array.getElem?_push, if_neg (by simp only [Array.size_push]; omega)]
 rw [Array.getElem?_push, if_pos rfl]
theorem hp4_1 (w : World) (o0 o1 o2 o3 : Obj) : ((((w.alloc o0).alloc o1).alloc o2).alloc o3).heap[w.heap.size + 1]? = some o1 := by
 show ((((w.heap.push o0).push o1).push o2).push o3)[w.heap.size + 1]? = _
 rw [Array.getElem?_push, if_neg (by simp only [Array.size_push]; omega)]
 rw [Array.getElem?_push, if_neg (by simp only [Array.size_push]; omega)]
 rw [Array.getElem?_push, if_pos (by simp only [Array.size_push])]
theorem hp4_2 (w : World) (o0 o1 o2 o3 : Obj) : ((((w.alloc o0).alloc o1).alloc o2).alloc o3).heap[w.heap.size + 1 + 1]? = some o2 := by
 show ((((w.heap.push o0).push o1).push o2).push o3)[w.heap.size + 1 + 1]? = _
 rw [Array.getElem?_push, if_neg (by simp only [Array.size_push]; omega)]
 rw [Array.getElem?_push, if_pos (by simp only [Array.size_push])]
theorem hp4_3 (w : World) (o0 o1 o2 o3 : Obj) : ((((w.alloc o0).alloc o1).alloc o2).alloc o3).heap[w.heap.size + 1 + 1 + 1]? = some o3 := by
 show ((((w.heap.push o0).push o1).push o2).push o3)[w.heap.size + 1 + 1 + 1]? = _
 rw [Array.getElem?_push, if_pos (by simp only [Array.size_push])]
/-! Results: a row, and a slot. -/
end Go.Proofs.YtlbndkfllegacaaGreatDoor
namespace Go.Proofs.YtlbndkfllegacaaGreatDoor
set_option maxRecDepth 100000
open Go.RowKit Go.Sort
end Go.Proofs.YtlbndkfllegacaaGreatDoor
namespace Go.Proofs.YtlbndkfllegacaaGreatDoor
set_option maxRecDepth 100000
open Go Go.RowKit
/-! A region that draws its order, whose operations are quiet but for ONE that waits for all others (a store): one walk of the text's order, then that one operation. -/
def Closed (L : List Oper) (listed : Array Bool) : Prop := ∀ k x, L[k]? = some x → listed.getD k false = true → ∀ e ∈ x.after, Region.binds .any e = true → listed.getD e.on false = true
section
variable {P : Program} {C : World → Prop} {L : List Oper} {m : Nat} {o : Oper}
theorem Closed.set {listed : Array Bool} (hc : Closed L listed) {i : Nat} (hr : i ∈ Region.ready .any L.toArray listed) : Closed L (listed.setIfInBounds i true) := by
 intro k x hx hk e he hb
 obtain ⟨h0, o', ho', hall⟩ := mem_ready.1 hr
 by_cases hki : i = k
 · subst hki
   have : o' = x := by have := ho'.symm.trans (by simpa using hx : L.toArray[i]? = some x); simpa using this
   subst this
   exact getD_set_true (hall e he hb)
 · rw [getD_set_ne false hki] at hk
   exact getD_set_true (hc k x hx hk e he hb)
end
end Go.Proofs.YtlbndkfllegacaaGreatDoor
namespace Go.Proofs.YtlbndkfllegacaaGreatDoor
set_option maxRecDepth 100000
open Go Go.RowKit Go.Sort
end Go.Proofs.YtlbndkfllegacaaGreatDoor
namespace Go.Proofs.YtlbndkfllegacaaGreatDoor
set_option maxRecDepth 100000
open Go Go.RowKit
/-! A region that draws its order: quiet but for one store, which waits for all others but for one part that is taken out of a tuple. -/
section
variable {P : Program} {C : World → Prop} {L : List Oper} {m x : Nat} {o ox : Oper}
end
end Go.Proofs.YtlbndkfllegacaaGreatDoor
namespace Go.Proofs.YtlbndkfllegacaaGreatDoor
set_option maxRecDepth 100000
open Go Go.RowKit Go.Sort
end Go.Proofs.YtlbndkfllegacaaGreatDoor
namespace Go.Proofs.YtlbndkfllegacaaGreatDoor
set_option maxRecDepth 100000
open Go Go.RowKit Go.Sort
end Go.Proofs.YtlbndkfllegacaaGreatDoor
namespace Go.Proofs.YtlbndkfllegacaaGreatDoor
set_option maxRecDepth 100000
open Go Go.RowKit Go.Sort
end Go.Proofs.YtlbndkfllegacaaGreatDoor
namespace Go.Proofs.YtlbndkfllegacaaGreatDoor
set_option maxRecDepth 100000
open Go Go.RowKit Go.Sort
theorem wp_call_ex {P : Program} {o : Oper} {a : Act} {w : World} {K : Act → World → Prop} {Q : Exit → Act → World → Prop} {f : FuncId} {args : Array Value} {R : Value → World → Prop} (hx : (execOp a.eval o).run P w = .ok (.enter f args) w)
   (c : Calls P f args w fun e w' => ∃ v, e = .returned v ∧ R v w') (h : ∀ v w', R v w' → K (a.put o.dst v) w') : o.wp P a w K Q := by
 unfold Oper.wp
 rw [hx, Oper.upon_enter]
 exact c.mono fun e w' ⟨v, he, hb⟩ => by subst he; exact h v w' hb
end Go.Proofs.YtlbndkfllegacaaGreatDoor
namespace Go.Proofs.YtlbndkfllegacaaGreatDoor
set_option maxRecDepth 100000
open Go Go.RowKit Go.Sort
/-! A region that draws its order: quiet operations first (q of them), then new blocks (up to place m), each to come up whenever it likes, then operations one behind the other. -/
def Cl (w : World) : World → Prop := fun W => ∃ p : Regrown, W = grow (redrawn w p.d) p.os
theorem Cl.refl (w : World) : Cl w w := ⟨⟨w.drawn, #[]⟩, by rw [grow_empty]; rfl⟩
theorem Cl.below {w W : World} (h : Cl w W) : Below w.heap.size w W := by obtain ⟨p, rfl⟩ := h; exact below_regrown w p.d p.os
section
variable {P : Program} {L : List Oper} {q m : Nat} {Ts : List Tmp}
end
end Go.Proofs.YtlbndkfllegacaaGreatDoor
namespace Go.Proofs.YtlbndkfllegacaaGreatDoor
set_option maxRecDepth 100000
open Go Go.RowKit Go.Sort
section
variable {P : Program}
variable {L : List Oper} {q m : Nat} {Ts : List Tmp}
end
end Go.Proofs.YtlbndkfllegacaaGreatDoor
namespace Go.Proofs.YtlbndkfllegacaaGreatDoor
set_option maxRecDepth 100000
open Go Go.RowKit Go.Sort
section
variable {P : Program} {L : List Oper} {q m : Nat} {Ts : List Tmp}
end
end Go.Proofs.YtlbndkfllegacaaGreatDoor

