import Derived.Test.YtjoohgkgkabbpaaGreatDoorProg
import Derived.WalkKit
import Derived.LaidEql
import Derived.Stop.Asserts
import Derived.RowKitTokens
import Derived.Test.YtjoohgkgkabbpaaGreatDoorXJrx
import Derived.OwnWalk
import Derived.Deep.Cut
import Derived.Deep.RegionHeld3
import Derived.OrdersHeld
import Derived.Test.YtjoohgkgkabbpaaGreatDoorXExq
import Derived.Test.YtjoohgkgkabbpaaGreatDoorXJrt
import Derived.Test.YtjoohgkgkabbpaaGreatDoorXOpen
import Derived.Test.YtjoohgkgkabbpaaGreatDoorXQc0
import Derived.Deep.CutRange
namespace Go.Proofs.YtjoohgkgkabbpaaGreatDoor
set_option maxRecDepth 100000
open Go Go.RowKit Go.Extern.Stop Go.Stop Go.Extern
theorem as_valueOf27 (t : Addr) (w : World) : (ReflectliteValue.unpack (.iface 89 (.pointer (some t)))).run Tryz.prog w
 = .ok (.agg #[.pointer (some ⟨4, 89, none⟩), .pointer (some ⟨w.heap.size, 0, none⟩), .int .u64 150]) (w.alloc (.cells #[.pointer (some t)] 89)) := by kernel_rfl
theorem as_type27 (a : Addr) (w : World) : (ReflectliteValue.methodAny (ReflectliteValue.valueError "reflectlite.Value.Type" 0) (fun t _ _ _ => ReflectliteType.toType t) #[.agg #[.pointer (some ⟨4, 89, none⟩), .pointer (some a), .int .u64 150]]).run Tryz.prog w
 = .ok (.iface 174 (.agg #[.pointer (some ⟨4, 89, none⟩)])) w := by kernel_rfl
theorem as_methodKind (h : Value) (w : World) : (Go.method 395 174 (.agg #[h]) "Kind").run Tryz.prog w = .ok (194, h) w := by kernel_rfl
theorem as_kind27 (w : World) : ((ReflectliteType.abiMethod fun t => (fun a : Nat => Value.int IntKind.u8 (a : Int)) <$> Rtype.kind t) #[.pointer (some ⟨4, 89, none⟩)]).run Tryz.prog w = .ok (.int .u8 22) w := by kernel_rfl
theorem as_kind25 (w : World) : ((ReflectliteType.abiMethod fun t => (fun a : Nat => Value.int IntKind.u8 (a : Int)) <$> Rtype.kind t) #[.pointer (some ⟨4, 87, none⟩)]).run Tryz.prog w = .ok (.int .u8 22) w := by kernel_rfl
theorem as_rlm (z : Sem Value) (f : TypeId → Addr → Nat → Nat → Sem Value) (v : Value) :
 ReflectliteValue.method z f #[v] = (do match ← ReflectliteValue.parts v with | none => z | some (t, a, fl) => f t a fl (fl % 32)) := rfl
theorem as_parts27 (a : Addr) (w : World) : (ReflectliteValue.parts (.agg #[.pointer (some ⟨4, 89, none⟩), .pointer (some a), .int .u64 150])).run Tryz.prog w = .ok (some (89, a, 150)) w := by kernel_rfl
theorem as_isNil27 (a p : Addr) (W : World) (ha : W.cell? a = some (.pointer (some p))) :
 (ReflectliteValue.method (ReflectliteValue.valueError "reflectlite.Value.IsNil" 0) ReflectliteValue.isNil #[.agg #[.pointer (some ⟨4, 89, none⟩), .pointer (some a), .int .u64 150]]).run Tryz.prog W = .ok (.bool false) W := by
 rw [as_rlm]
 simp only [Sem.run_bind, as_parts27, Result.andThen]
 simp [ReflectliteValue.isNil, loadVar, isAgg, underlying, Tryz.underlying89, ha, Result.andThen]
theorem as_methodElem (h : Value) (w : World) : (Go.method 395 174 (.agg #[h]) "Elem").run Tryz.prog w = .ok (208, .agg #[h]) w := by kernel_rfl
theorem as_methodImplements (h : Value) (w : World) : (Go.method 395 174 (.agg #[h]) "Implements").run Tryz.prog w = .ok (209, .agg #[h]) w := by kernel_rfl
theorem as_methodAssignableTo (h : Value) (w : World) : (Go.method 395 174 (.agg #[h]) "AssignableTo").run Tryz.prog w = .ok (206, .agg #[h]) w := by kernel_rfl
theorem as_elem27 (w : World) : (ReflectliteType.method ReflectliteType.elem #[.agg #[.pointer (some ⟨4, 89, none⟩)]]).run Tryz.prog w = .ok (.iface 174 (.agg #[.pointer (some ⟨4, 87, none⟩)])) w := by kernel_rfl
theorem as_implements25 (w : World) : (ReflectliteType.relation "Implements" ReflectliteType.implements_ #[.agg #[.pointer (some ⟨4, 87, none⟩)], .iface 174 (.agg #[.pointer (some ⟨4, 30, none⟩)])]).run Tryz.prog w = .ok (.bool true) w := by kernel_rfl
theorem as_typeOf25 (v : Value) (w : World) : (ReflectliteType.typeOf #[.iface 87 v]).run Tryz.prog w = .ok (.iface 174 (.agg #[.pointer (some ⟨4, 87, none⟩)])) w := by kernel_rfl
theorem as_assignable25 (w : World) : (ReflectliteType.relation "AssignableTo" ReflectliteType.assignableTo #[.agg #[.pointer (some ⟨4, 87, none⟩)], .iface 174 (.agg #[.pointer (some ⟨4, 87, none⟩)])]).run Tryz.prog w = .ok (.bool true) w := by kernel_rfl
theorem as_valueOf25 (e : Addr) (w : World) : (ReflectliteValue.unpack (.iface 87 (.pointer (some e)))).run Tryz.prog w
 = .ok (.agg #[.pointer (some ⟨4, 87, none⟩), .pointer (some ⟨w.heap.size, 0, none⟩), .int .u64 150]) (w.alloc (.cells #[.pointer (some e)] 87)) := by kernel_rfl
theorem as_elemOf27 (w : World) : (Rtype.elem? 89).run Tryz.prog w = .ok (some 87) w := by kernel_rfl
theorem as_mk25 (p : Addr) (w : World) : (ReflectliteValue.mk 87 p ReflectliteValue.flagAddr).run Tryz.prog w = .ok (.agg #[.pointer (some ⟨4, 87, none⟩), .pointer (some p), .int .u64 406]) w := by kernel_rfl
theorem as_elemV27 (a p : Addr) (W : World) (ha : W.cell? a = some (.pointer (some p))) :
 (ReflectliteValue.method (ReflectliteValue.valueError "reflectlite.Value.Elem" 0) ReflectliteValue.elem #[.agg #[.pointer (some ⟨4, 89, none⟩), .pointer (some a), .int .u64 150]]).run Tryz.prog W
  = .ok (.agg #[.pointer (some ⟨4, 87, none⟩), .pointer (some p), .int .u64 406]) W := by
 rw [as_rlm]
 simp only [Sem.run_bind, as_parts27, Result.andThen]
 simp [ReflectliteValue.elem, loadVar, isAgg, underlying, Tryz.underlying89, ha, Result.andThen, as_elemOf27, as_mk25]
theorem as_rls (v x : Value) : ReflectliteValue.set #[v, x] = (do
 let (some (dst, a, fl), some (src, b, _)) := (← ReflectliteValue.parts v, ← ReflectliteValue.parts x)
  | unsupported (.noEntry "extern/(internal/reflectlite.Value).Set.zeroValue")
 if fl / ReflectliteValue.flagAddr % 2 == 0 then unsupported (.noEntry "extern/(internal/reflectlite.Value).Set.unaddressable")
 let val ← loadVar src b
 if ← Rtype.directlyAssignable dst src then storeVar dst a val
 else if ← Rtype.implements dst src then
  if (← Rtype.kind src) == 20 then
   match val with
   | .nilIface => unsupported (.noEntry "extern/reflectlite: a nil value of one interface type handed on as a value of another")
   | _ => storeVar dst a val
  else storeVar dst a (.iface src val)
 else panicString ("reflectlite.Set: value of type " ++ (← Rtype.spelt src) ++ " is not assignable to type " ++ (← Rtype.spelt dst))
 pure (.tuple #[])) := rfl
theorem as_parts25a (a : Addr) (w : World) : (ReflectliteValue.parts (.agg #[.pointer (some ⟨4, 87, none⟩), .pointer (some a), .int .u64 406])).run Tryz.prog w = .ok (some (87, a, 406)) w := by kernel_rfl
theorem as_parts25 (a : Addr) (w : World) : (ReflectliteValue.parts (.agg #[.pointer (some ⟨4, 87, none⟩), .pointer (some a), .int .u64 150])).run Tryz.prog w = .ok (some (87, a, 150)) w := by kernel_rfl
theorem as_direct25 (w : World) : (Rtype.directlyAssignable 87 87).run Tryz.prog w = .ok true w := by kernel_rfl
theorem as_set25 (ta b e : Addr) (old : Value) (W : World) (hb : W.cell? b = some (.pointer (some e))) (ht : W.cell? ta = some old) (hf : W.frozen? ta = false) :
 (ReflectliteValue.set #[.agg #[.pointer (some ⟨4, 87, none⟩), .pointer (some ta), .int .u64 406], .agg #[.pointer (some ⟨4, 87, none⟩), .pointer (some b), .int .u64 150]]).run Tryz.prog W
  = .ok (.tuple #[]) (W.setCell ta (.pointer (some e))) := by
 rw [as_rls]
 simp only [Sem.run_bind, as_parts25a, as_parts25, Result.andThen]
 simp [ReflectliteValue.flagAddr, loadVar, isAgg, underlying, Tryz.underlying87, hb, Result.andThen, as_direct25, storeVar, Value.cells, storeCells, Addr.add]
 rw [run_store Tryz.prog W ta _ _ (by rfl)]
 simp [ht, hf]
set_option maxHeartbeats 4000000 in
theorem as_hit (e t : Addr) (old : Value) (w : World) (hg : w.cell? ⟨0, 0, none⟩ = some (.iface 174 (.agg #[.pointer (some ⟨4, 30, none⟩)]))) (ht0 : w.cell? t = some old) (hf0 : w.frozen? t = false) :
 Calls Tryz.prog 34 #[.iface 87 (.pointer (some e)), .iface 89 (.pointer (some t))] w fun ev w' => ev = .returned (.bool true) ∧ w' = ((((w.alloc (.cells #[.pointer (some t)] 89)).alloc (.cells #[.pointer (some ⟨4, 89, none⟩), .pointer (some ⟨w.heap.size, 0, none⟩), .int .u64 150] 130)).alloc (.cells #[.pointer (some ⟨4, 89, none⟩), .pointer (some ⟨w.heap.size, 0, none⟩), .int .u64 150] 130)).alloc (.cells #[.pointer (some e)] 87)).setCell t (.pointer (some e)) := by
 have h6 := @run_callFunc_extern Tryz.prog 65 _ (fun args => ReflectliteValue.unpack (args.getD 0 (.tuple #[]))) Tryz.func65 (by kernel_rfl) (by kernel_rfl) (by kernel_rfl) (by kernel_rfl)
 have h7 := @run_callFunc_extern Tryz.prog 66 _ (ReflectliteValue.methodAny (ReflectliteValue.valueError "reflectlite.Value.Type" 0) (fun t _ _ _ => ReflectliteType.toType t)) Tryz.func66 (by kernel_rfl) (by kernel_rfl) (by kernel_rfl) (by kernel_rfl)
 have h8 := @run_callFunc_extern Tryz.prog 67 _ (ReflectliteValue.method (ReflectliteValue.valueError "reflectlite.Value.IsNil" 0) ReflectliteValue.isNil) Tryz.func67 (by kernel_rfl) (by kernel_rfl) (by kernel_rfl) (by kernel_rfl)
 have h27 := @run_callFunc_extern Tryz.prog 194 _ (ReflectliteType.abiMethod fun t => do pure (.int .u8 (← Rtype.kind t))) Tryz.func194 (by kernel_rfl) (by kernel_rfl) (by kernel_rfl) (by kernel_rfl)
 have h37 := @run_callFunc_extern Tryz.prog 208 _ (ReflectliteType.method ReflectliteType.elem) Tryz.func208 (by kernel_rfl) (by kernel_rfl) (by kernel_rfl) (by kernel_rfl)
 have h38 := @run_callFunc_extern Tryz.prog 209 _ (ReflectliteType.relation "Implements" ReflectliteType.implements_) Tryz.func209 (by kernel_rfl) (by kernel_rfl) (by kernel_rfl) (by kernel_rfl)
 have h10 := @run_callFunc_extern Tryz.prog 95 _ ReflectliteType.typeOf Tryz.func95 (by kernel_rfl) (by kernel_rfl) (by kernel_rfl) (by kernel_rfl)
 have h35 := @run_callFunc_extern Tryz.prog 206 _ (ReflectliteType.relation "AssignableTo" ReflectliteType.assignableTo) Tryz.func206 (by kernel_rfl) (by kernel_rfl) (by kernel_rfl) (by kernel_rfl)
 have h11 := @run_callFunc_extern Tryz.prog 96 _ (ReflectliteValue.method (ReflectliteValue.valueError "reflectlite.Value.Elem" 0) ReflectliteValue.elem) Tryz.func96 (by kernel_rfl) (by kernel_rfl) (by kernel_rfl) (by kernel_rfl)
 have h12 := @run_callFunc_extern Tryz.prog 97 _ ReflectliteValue.set Tryz.func97 (by kernel_rfl) (by kernel_rfl) (by kernel_rfl) (by kernel_rfl)
 have tO := as_typeOf25
 have mA := as_methodAssignableTo
 have a25 := as_assignable25
 have v25 := as_valueOf25
 have f6 := as_valueOf27
 have f7 := as_type27
 have mK := as_methodKind
 have mE := as_methodElem
 have mI := as_methodImplements
 have k27 := as_kind27
 have k25 := as_kind25
 have e27 := as_elem27
 have i25 := as_implements25
 have n8 := as_isNil27 ⟨w.heap.size, 0, none⟩ t ((w.alloc (.cells #[.pointer (some t)] 89)).alloc (.cells #[.pointer (some ⟨4, 89, none⟩), .pointer (some ⟨w.heap.size, 0, none⟩), .int .u64 150] 130)) (by simp)
 have hlt : 0 < w.heap.size := by
  rcases Nat.lt_or_ge 0 w.heap.size with h | h
  ·exact h
  ·simp [World.cell?, Array.getElem?_eq_none h] at hg
 have hg2 : ((w.alloc (.cells #[.pointer (some t)] 89)).alloc (.cells #[.pointer (some ⟨4, 89, none⟩), .pointer (some ⟨w.heap.size, 0, none⟩), .int .u64 150] 130)).cell? ⟨0, 0, none⟩ = some (.iface 174 (.agg #[.pointer (some ⟨4, 30, none⟩)])) := by
  rw [World.cell?_alloc_lt _ _ ⟨0, 0, none⟩ (by simp <;> omega), World.cell?_alloc_lt _ _ ⟨0, 0, none⟩ hlt]; exact hg
 have htl : t.block < w.heap.size := by
  rcases Nat.lt_or_ge t.block w.heap.size with h | h
  ·exact h
  ·simp [World.cell?, Array.getElem?_eq_none h] at ht0
 have el := as_elemV27 ⟨w.heap.size, 0, none⟩ t (((w.alloc (.cells #[.pointer (some t)] 89)).alloc (.cells #[.pointer (some ⟨4, 89, none⟩), .pointer (some ⟨w.heap.size, 0, none⟩), .int .u64 150] 130)).alloc (.cells #[.pointer (some ⟨4, 89, none⟩), .pointer (some ⟨w.heap.size, 0, none⟩), .int .u64 150] 130)) (by rw [World.cell?_alloc_lt _ _ ⟨w.heap.size, 0, none⟩ (by simp; omega)]; simp)
 have st := as_set25 t ⟨w.heap.size + 1 + 1 + 1, 0, none⟩ e old ((((w.alloc (.cells #[.pointer (some t)] 89)).alloc (.cells #[.pointer (some ⟨4, 89, none⟩), .pointer (some ⟨w.heap.size, 0, none⟩), .int .u64 150] 130)).alloc (.cells #[.pointer (some ⟨4, 89, none⟩), .pointer (some ⟨w.heap.size, 0, none⟩), .int .u64 150] 130)).alloc (.cells #[.pointer (some e)] 87))
  (by rw [World.cell?_alloc_at _ _ _ _ (by simp)]; rfl)
  (by rw [World.cell?_alloc_lt _ _ t (by simp; omega), World.cell?_alloc_lt _ _ t (by simp; omega), World.cell?_alloc_lt _ _ t (by simp; omega), World.cell?_alloc_lt _ _ t htl]; exact ht0)
  (by rw [World.frozen?_alloc_old _ _ t (by simp; omega), World.frozen?_alloc_old _ _ t (by simp; omega), World.frozen?_alloc_old _ _ t (by simp; omega), World.frozen?_alloc_old _ _ t (Nat.ne_of_lt htl)]; exact hf0)
 go_enter Tryz.func34, Tryz.ntmps34
 go_wp2
 refine wp_loop_rounds 1 ?_
 rw [rounds_succ]
 go_wp2
 go_ret
 exact ⟨rfl, rfl⟩
def Ety (w : World) : Prop := w.cell? ⟨0, 0, none⟩ = some (.iface 174 (.agg #[.pointer (some ⟨4, 30, none⟩)]))
end Go.Proofs.YtjoohgkgkabbpaaGreatDoor
namespace Go.Proofs.YtjoohgkgkabbpaaGreatDoor
set_option maxRecDepth 100000
open Go Go.RowKit Go.Sort
attribute [local go_sem] setCell_drewN alloc_drewN
theorem run_eql_op {P : Program} {o : Oper} {a : Act} {w : World} (t u : TypeId) (x y : Operand) (ho : o.op = .binOp .eql t x y u) (X Y : Array Value) (hx : a.eval x = .agg X) (hy : a.eval y = .agg Y) (hg : P.eqGuardType P.depth t = false) (B : Bool) (he : (Op.equalIn 10000 t (.agg X) (.agg Y)).run P w = .ok B w) : (execOp a.eval o).run P w = .ok (.value (.bool B)) w := by
 unfold execOp
 simp only [ho, hx, hy, Sem.run_bind, Sem.run_pure, Result.andThen_ok, run_eqGuard_agg w .eql t x y X Y hg, run_eql_struct, he]
theorem run_neq_op {P : Program} {o : Oper} {a : Act} {w : World} (t u : TypeId) (x y : Operand) (ho : o.op = .binOp .neq t x y u) (X Y : Array Value) (hx : a.eval x = .agg X) (hy : a.eval y = .agg Y) (hg : P.eqGuardType P.depth t = false) (B : Bool) (he : (Op.equalIn 10000 t (.agg X) (.agg Y)).run P w = .ok B w) : (execOp a.eval o).run P w = .ok (.value (.bool (!B))) w := by
 unfold execOp
 simp only [ho, hx, hy, Sem.run_bind, Sem.run_pure, Result.andThen_ok, run_eqGuard_agg w .neq t x y X Y hg, run_neq_struct, he]
theorem fldFt : ∃ f0 f1 f2, (Tryz.prog.fieldsOf 35).toList = [f0, f1, f2] ∧ f0.name ≠ "_" ∧ f0.type = 3 ∧ f0.offset = 0 ∧ f1.name ≠ "_" ∧ f1.type = 3 ∧ f1.offset = 1 ∧ f2.name ≠ "_" ∧ f2.type = 33 ∧ f2.offset = 2 := ⟨_, _, _, rfl, by decide, rfl, rfl, by decide, rfl, rfl, by decide, rfl, rfl⟩
theorem strFt : Tryz.prog.underlying 35 = some (.struct (Tryz.prog.fieldsOf 35)) := by kernel_rfl
theorem stoFt : Tryz.prog.stoodInHeld 35 = false := by kernel_rfl
theorem part_iF {cs : Array Value} {n : Int} {o : Nat} (h : cs[o]? = some (.int .i64 n)) (W : World) : (part 3 cs o).run Tryz.prog W = .ok (.int .i64 n) W := by
 have ha : (isAgg 3).run Tryz.prog W = .ok false W := by
  unfold isAgg
  rw [Sem.run_bind, run_underlying Tryz.underlying3 W]
  rfl
 simp [part, Sem.run_bind, ha, h]
theorem part_nF {cs : Array Value} {n : Int} {o : Nat} (h : cs[o]? = some (.int .i64 n)) (W : World) : (part 33 cs o).run Tryz.prog W = .ok (.int .i64 n) W := by
 have ha : (isAgg 33).run Tryz.prog W = .ok false W := by
  unfold isAgg
  rw [Sem.run_bind, run_underlying Tryz.underlying33 W]
  rfl
 simp [part, Sem.run_bind, ha, h]
theorem eq_ftr (x : Flt3) (W : World) : (Op.equalIn 10000 35 (.agg (frw x)) (.agg (frw x))).run Tryz.prog W = .ok true W := by
 unfold frw
 obtain ⟨f0, f1, f2, hf, n0, t0, o0, n1, t1, o1, n2, t2, o2⟩ := fldFt
 rw [run_equalIn_struct W 9999 35 _ _ strFt stoFt, hf]
 have i0 := fun p q => run_equalIn_int W (P := Tryz.prog) 9998 3 .i64 .i64 p q Tryz.underlying3
 have i1 := fun p q => run_equalIn_int W (P := Tryz.prog) 9998 33 .i64 .i64 p q Tryz.underlying33
 rw [eqf_cons n0 (by rw [t0, o0]; exact part_iF rfl W) (by rw [t0, o0]; exact part_iF rfl W) (by rw [t0]; exact i0 x.line x.line), eqf_cons n1 (by rw [t1, o1]; exact part_iF rfl W) (by rw [t1, o1]; exact part_iF rfl W) (by rw [t1]; exact i0 x.at_ x.at_), eqf_cons n2 (by rw [t2, o2]; exact part_nF rfl W) (by rw [t2, o2]; exact part_nF rfl W) (by rw [t2]; exact i1 x.why x.why), eqf_nil]
 simp
theorem Ety.keep {w w' : World} {n : Nat} (h : Ety w) (hb : Below n w w') (hn : n = w.heap.size) : Ety w' := by
 subst hn
 unfold Ety at *
 have hl : 0 < w.heap.size := by
  rcases Nat.lt_or_ge 0 w.heap.size with q | q
  ·exact q
  ·simp [World.cell?, Array.getElem?_eq_none q] at h
 rw [World.cell?_of_block (hb.block _ hl)]
 exact h
theorem bFt (cs : Array Value) (W : World) : (Instr.box 35 (.agg cs)).run Tryz.prog W = .ok (.pointer (some ⟨W.heap.size, 0, none⟩)) (W.alloc (.cells cs 35)) := by kernel_rfl
theorem eql_nilE (W : World) : (binOp .eql 30 .nilIface .nilIface).run Tryz.prog W = .ok (.bool true) W := by kernel_rfl
theorem frw_one (x : Flt3) : (frw x).all (·.oneCell') = true := by simp [frw, Value.oneCell']
theorem as_fault (g k : Nat) (w : World) (hE : Ety w) (hk : w.heap[k]? = some (.cells #[.pointer none] 87 (0, 0))) : Calls Tryz.prog 34 #[.iface 87 (.pointer (some ⟨g, 0, none⟩)), .iface 89 (.pointer (some ⟨k, 0, none⟩))] w fun e w' => e = .returned (.bool true) ∧ w'.heap[k]? = some (.cells #[.pointer (some ⟨g, 0, none⟩)] 87 (0, 0)) ∧ But k w w' := by
 have hl := lt_of_row hk
 refine (as_hit ⟨g, 0, none⟩ ⟨k, 0, none⟩ (.pointer none) w hE (by rw [cell_of_row _ _ _ _ _ _ hk]; rfl) (row_frozen hk 0)).mono ?_
 rintro e w' ⟨rfl, rfl⟩
 have hb : Below w.heap.size w ((((w.alloc (.cells #[.pointer (some ⟨k, 0, none⟩)] 89)).alloc (.cells #[.pointer (some ⟨4, 89, none⟩), .pointer (some ⟨w.heap.size, 0, none⟩), .int .u64 150] 130)).alloc (.cells #[.pointer (some ⟨4, 89, none⟩), .pointer (some ⟨w.heap.size, 0, none⟩), .int .u64 150] 130)).alloc (.cells #[.pointer (some ⟨g, 0, none⟩)] 87)) := ((((Below.refl _ _).alloc (Nat.le_refl _) _).alloc (by simp) _).alloc (by simp; omega) _).alloc (by simp; omega) _
 generalize (((w.alloc (.cells #[.pointer (some ⟨k, 0, none⟩)] 89)).alloc (.cells #[.pointer (some ⟨4, 89, none⟩), .pointer (some ⟨w.heap.size, 0, none⟩), .int .u64 150] 130)).alloc (.cells #[.pointer (some ⟨4, 89, none⟩), .pointer (some ⟨w.heap.size, 0, none⟩), .int .u64 150] 130)).alloc (.cells #[.pointer (some ⟨g, 0, none⟩)] 87) = w4 at *
 exact ⟨rfl, row_set (keep hb hk) 0 _, (But.of hb).trans (But.set w4 _)⟩
theorem infoFrw (x : Flt3) : (Tryz.prog.info? 35).map (·.size) = some (frw x).size := by
 rw [show (frw x).size = 3 from rfl]
 kernel_rfl
set_option maxRecDepth 100000 in
set_option maxHeartbeats 8000000 in
theorem l_faulty_nil (a b : Int) (w : World) : Calls Tryz.prog 17 #[.nilIface, .agg #[.int .i64 a, .int .i64 b, .int .i64 0]] w fun e w' => e = .returned (.bool true) ∧ Below w.heap.size w w' := by
 have h1 := eql_nilE
 have hw : Below w.heap.size w (w.alloc (.cells #[.int .i64 a, .int .i64 b, .int .i64 0] 35)) := (Below.refl _ _).alloc (Nat.le_refl _) _
 replace hw := hide hw
 go_enter Tryz.func17, Tryz.ntmps17
 go_wp2
 go_ret
 exact ⟨rfl, hw.out⟩
set_option maxRecDepth 100000 in
set_option maxHeartbeats 8000000 in
theorem l_faulty_hit (x : Flt3) (hx : x.why ≠ 0) (g : Nat) (w : World) (hE : Ety w) (hg : w.heap[g]? = some (.cells (frw x) 35 (0, 0))) : Calls Tryz.prog 17 #[.iface 87 (.pointer (some ⟨g, 0, none⟩)), .agg (frw x)] w fun e w' => e = .returned (.bool true) ∧ Below w.heap.size w w' := by
 have hgl := lt_of_row hg
 have R0 := hp2_0 w (.cells (frw x) 35) (.cells #[.pointer none] 87)
 have R1 := hp2_1 w (.cells (frw x) 35) (.cells #[.pointer none] 87)
 have hw : Below w.heap.size w ((w.alloc (.cells (frw x) 35)).alloc (.cells #[.pointer none] 87)) := ((Below.refl _ _).alloc (Nat.le_refl _) _).alloc (by simp) _
 replace hg := keep hw hg
 replace hE := hE.keep hw rfl
 have bE : (x.why == 0) = false := by simpa using hx
 have cW : (w.alloc (.cells (frw x) 35)).cell? ⟨w.heap.size, 2, none⟩ = some (.int .i64 x.why) := by rw [cell_of_row _ _ _ _ _ _ (hp1_0 w (.cells (frw x) 35))]; rfl
 replace hx := hide hx
 go_enter Tryz.func17, Tryz.ntmps17
 go_upto_region 4 with (first | (refine wpList_box rfl 35 _ rfl _ rfl (bFt _) ?_) | fail)
 try simp only [size_alloc1, Act.put, List.setIfInBounds_toArray, List.set_cons_succ, List.set_cons_zero]
 generalize ((w.alloc (.cells (frw x) 35)).alloc (.cells #[.pointer none] 87)) = w1 at *
 have hbd : Below w1.heap.size w1 w1.drew := below_drN (Below.refl _ _) 1
 replace R0 := keep hbd R0
 replace R1 := keep hbd R1
 replace hg := keep hbd hg
 replace hE := hE.keep hbd rfl
 replace hw := Below.after hw hbd
 have HS : (fun W : World => W.heap[w.heap.size]? = some (.cells (frw x) 35 (0, 0)) ∧ W.heap[g]? = some (.cells (frw x) 35 (0, 0))) w1.drew := ⟨R0, hg⟩
 clear hbd R0 hg cW
 refine wp_region_noPanic ?_
 refine wp_region_held (S := fun W : World => W.heap[w.heap.size]? = some (.cells (frw x) 35 (0, 0)) ∧ W.heap[g]? = some (.cells (frw x) 35 (0, 0))) (by kernel_rfl) ?_
 change wpAnyH _ _ _ _ _ _ _ _ (World.drew _)
 generalize w1.drew = w2 at *
 refine wpAnyH_take (i := 0) (v := ?v1) rfl (by kernel_rfl) (by kernel_rfl) (by kernel_rfl) (fun _ _ _ h => h) (Or.inl ⟨by rfl, ?y1⟩) HS ?r1
 case y1 =>
  intro w_ hS_
  go_simp
  try with_reducible rfl
 simp only [Act.put, List.getElem_toArray, List.getElem_cons_zero, List.setIfInBounds_toArray, List.set_cons_succ, List.set_cons_zero]
 refine wpAnyH_take (i := 1) (v := .iface 89 (.pointer (some ⟨w.heap.size + 1, 0, none⟩))) rfl (by kernel_rfl) (by kernel_rfl) (by kernel_rfl) (fun _ _ _ h => h) (Or.inl ⟨by rfl, ?y2⟩) HS ?r2
 case y2 =>
  intro w_ hS_
  go_simp
  try with_reducible rfl
 simp only [Act.put, List.getElem_toArray, List.getElem_cons_succ, List.getElem_cons_zero, List.setIfInBounds_toArray, List.set_cons_succ, List.set_cons_zero]
 refine wpAnyH_one (k := 2) (fuel := 12) (by kernel_rfl) rfl (by rfl) (fun K_ hK => ?_)
 refine wp_call_ex (f := 34) (R := fun v w' => v = .bool true ∧ w'.heap[w.heap.size + 1]? = some (.cells #[.pointer (some ⟨g, 0, none⟩)] 87 (0, 0)) ∧ But (w.heap.size + 1) w2 w') (by kernel_rfl) ((as_fault g (w.heap.size + 1) w2 hE R1).mono (fun e w' h => (by obtain ⟨e1, e2⟩ := h; exact ⟨_, e1, rfl, e2⟩ : ∃ v, e = .returned v ∧ v = .bool true ∧ w'.heap[w.heap.size + 1]? = some (.cells #[.pointer (some ⟨g, 0, none⟩)] 87 (0, 0)) ∧ But (w.heap.size + 1) w2 w'))) (fun v_ w3 hX_ => ?_)
 obtain ⟨rfl, R1', hbu⟩ := hX_
 have HS' : (fun W : World => W.heap[w.heap.size]? = some (.cells (frw x) 35 (0, 0)) ∧ W.heap[g]? = some (.cells (frw x) 35 (0, 0))) w3 := ⟨hbu.row HS.1 (by omega), hbu.row HS.2 (by omega)⟩
 replace hw := But.after hw (by omega) hbu
 have cF : w3.cell? ⟨w.heap.size + 1, 0, none⟩ = some (.pointer (some ⟨g, 0, none⟩)) := by rw [cell_of_row _ _ _ _ _ _ R1']; rfl
 clear hbu R1 hE HS
 have HS := HS'
 clear HS'
 refine hK _ _ HS ?_
 simp only [Act.put, List.getElem_toArray, List.getElem_cons_succ, List.getElem_cons_zero, List.setIfInBounds_toArray, List.set_cons_succ, List.set_cons_zero]
 clear hK
 refine wpAnyH_take (i := 3) (v := ?v3) rfl (by kernel_rfl) (by kernel_rfl) (by kernel_rfl) (fun _ _ _ h => h) (Or.inl ⟨by rfl, ?y3⟩) HS ?r3
 case y3 =>
  intro w_ hS_
  go_simp
  try with_reducible rfl
 simp only [Act.put, List.getElem_toArray, List.getElem_cons_succ, List.getElem_cons_zero, List.setIfInBounds_toArray, List.set_cons_succ, List.set_cons_zero]
 refine wpAnyH_one (k := 4) (fuel := 10) (by kernel_rfl) rfl (by rfl) (fun K_ hK => ?_)
 refine wp_val_op (.pointer (some ⟨g, 0, none⟩)) (w' := w3) (by go_simp; try with_reducible rfl) ?_
 refine hK _ _ HS ?_
 simp only [Act.put, List.getElem_toArray, List.getElem_cons_succ, List.getElem_cons_zero, List.setIfInBounds_toArray, List.set_cons_succ, List.set_cons_zero]
 clear hK
 refine wpAnyH_take (i := 5) (v := ?v4) rfl (by kernel_rfl) (by kernel_rfl) (by kernel_rfl) (fun _ _ _ h => h) (Or.inl ⟨by rfl, ?y4⟩) HS ?r4
 case y4 =>
  intro w_ hS_
  go_simp
  try with_reducible rfl
 simp only [Act.put, List.getElem_toArray, List.getElem_cons_succ, List.getElem_cons_zero, List.setIfInBounds_toArray, List.set_cons_succ, List.set_cons_zero]
 refine wpAnyH_take (i := 6) (v := ?v5) rfl (by kernel_rfl) (by kernel_rfl) (by kernel_rfl) (fun _ _ _ h => h) (Or.inl ⟨by rfl, ?y5⟩) HS ?r5
 case y5 =>
  intro w_ hS_
  go_simp
  try with_reducible rfl
 simp only [Act.put, List.getElem_toArray, List.getElem_cons_succ, List.getElem_cons_zero, List.setIfInBounds_toArray, List.set_cons_succ, List.set_cons_zero]
 refine wpAnyH_take (i := 7) (v := ?v6) rfl (by kernel_rfl) (by kernel_rfl) (by kernel_rfl) (fun _ _ _ h => h) (Or.inl ⟨by rfl, ?y6⟩) HS ?r6
 case y6 =>
  intro w_ hS_
  go_simp
  try with_reducible rfl
 simp only [Act.put, List.getElem_toArray, List.getElem_cons_succ, List.getElem_cons_zero, List.setIfInBounds_toArray, List.set_cons_succ, List.set_cons_zero]
 refine wpAnyH_take (i := 11) (v := .agg (frw x)) rfl (by kernel_rfl) (by kernel_rfl) (by kernel_rfl) (fun _ _ _ h => h) (Or.inl ⟨by rfl, ?y7⟩) HS ?r7
 case y7 =>
  intro w_ hS_
  simp only [List.getElem_toArray, List.getElem_cons_succ, List.getElem_cons_zero]
  exact run_load_part 35 _ (by rfl) (w.heap.size) 0 (by rfl) 35 (frw x) (0, 0) (frw x) _ (hS_.1) (all_rowB _) Tryz.underlying35 rfl (infoFrw x)
 simp only [Act.put, List.getElem_toArray, List.getElem_cons_succ, List.getElem_cons_zero, List.setIfInBounds_toArray, List.set_cons_succ, List.set_cons_zero]
 refine wpAnyH_one (k := 8) (fuel := 5) (by kernel_rfl) rfl (by rfl) (fun K_ hK => ?_)
 refine wp_val_op (.pointer (some ⟨g, 0, none⟩)) (w' := w3) (by go_simp; try with_reducible rfl) ?_
 refine hK _ _ HS ?_
 simp only [Act.put, List.getElem_toArray, List.getElem_cons_succ, List.getElem_cons_zero, List.setIfInBounds_toArray, List.set_cons_succ, List.set_cons_zero]
 clear hK
 refine wpAnyH_take (i := 9) (v := ?v8) rfl (by kernel_rfl) (by kernel_rfl) (by kernel_rfl) (fun _ _ _ h => h) (Or.inl ⟨by rfl, ?y8⟩) HS ?r8
 case y8 =>
  intro w_ hS_
  go_simp
  try with_reducible rfl
 simp only [Act.put, List.getElem_toArray, List.getElem_cons_succ, List.getElem_cons_zero, List.setIfInBounds_toArray, List.set_cons_succ, List.set_cons_zero]
 refine wpAnyH_take (i := 10) (v := .agg (frw x)) rfl (by kernel_rfl) (by kernel_rfl) (by kernel_rfl) (fun _ _ _ h => h) (Or.inl ⟨by rfl, ?y9⟩) HS ?r9
 case y9 =>
  intro w_ hS_
  simp only [List.getElem_toArray, List.getElem_cons_succ, List.getElem_cons_zero]
  exact run_load_part 35 _ (by rfl) (g) 0 (by rfl) 35 (frw x) (0, 0) (frw x) _ (hS_.2) (all_rowB _) Tryz.underlying35 rfl (infoFrw x)
 simp only [Act.put, List.getElem_toArray, List.getElem_cons_succ, List.getElem_cons_zero, List.setIfInBounds_toArray, List.set_cons_succ, List.set_cons_zero]
 refine wpAnyH_take (i := 12) (v := (.bool true)) rfl (by kernel_rfl) (by kernel_rfl) (by kernel_rfl) (fun _ _ _ h => h) (Or.inl ⟨by rfl, ?y10⟩) HS ?r10
 case y10 =>
  intro w_ hS_
  simp only [List.getElem_toArray, List.getElem_cons_succ, List.getElem_cons_zero]
  exact run_eql_op 35 35 _ _ (by rfl) (frw x) (frw x) (by rfl) (by rfl) (by kernel_rfl) true (eq_ftr x _)
 simp only [Act.put, List.getElem_toArray, List.getElem_cons_succ, List.getElem_cons_zero, List.setIfInBounds_toArray, List.set_cons_succ, List.set_cons_zero]
 refine wpAnyH_take (i := 13) (v := ?v11) rfl (by kernel_rfl) (by kernel_rfl) (by kernel_rfl) (fun _ _ _ h => h) (Or.inl ⟨by rfl, ?y11⟩) HS ?r11
 case y11 =>
  intro w_ hS_
  go_simp
  try with_reducible rfl
 simp only [Act.put, List.getElem_toArray, List.getElem_cons_succ, List.getElem_cons_zero, List.setIfInBounds_toArray, List.set_cons_succ, List.set_cons_zero]
 refine wpAnyH_take (i := 14) (v := ?v12) rfl (by kernel_rfl) (by kernel_rfl) (by kernel_rfl) (fun _ _ _ h => h) (Or.inl ⟨by rfl, ?y12⟩) HS ?r12
 case y12 =>
  intro w_ hS_
  go_simp
  try with_reducible rfl
 simp only [Act.put, List.getElem_toArray, List.getElem_cons_succ, List.getElem_cons_zero, List.setIfInBounds_toArray, List.set_cons_succ, List.set_cons_zero]
 refine wpAnyH_done (by kernel_rfl) ?_ _
 refine NoPanic.normal ?_
 go_wp2_with (fail)
 go_ret
 exact ⟨rfl, hw⟩
end Go.Proofs.YtjoohgkgkabbpaaGreatDoor
namespace Go.Proofs.YtjoohgkgkabbpaaGreatDoor
set_option maxRecDepth 100000
open Go Go.RowKit Go.Sort
attribute [local go_sem] setCell_drewN alloc_drewN
theorem wpList_eql {P : Program} {ops : Array Oper} {Q : Exit → Act → World → Prop} {w : World} {rest : List Oper} {o : Oper} {a : Act} (hw : Region.wanted o (yielded ops a.tmps) = true) (t u : TypeId) (x y : Operand) (ho : o.op = .binOp .eql t x y u) (X Y : Array Value) (hx : a.eval x = .agg X) (hy : a.eval y = .agg Y) (hg : P.eqGuardType P.depth t = false) (B : Bool) (he : (Op.equalIn 10000 t (.agg X) (.agg Y)).run P w = .ok B w) (h : wpList P ops Q rest (a.put o.dst (.bool B)) w) : wpList P ops Q (o :: rest) a w :=
 BigFrame.wpList_want hw fun _ hK => wp_world_op _ _ (run_eql_op t u x y ho X Y hx hy hg B he) (hK _ _ h)
theorem wpList_neqS {P : Program} {ops : Array Oper} {Q : Exit → Act → World → Prop} {w : World} {rest : List Oper} {o : Oper} {a : Act} (hw : Region.wanted o (yielded ops a.tmps) = true) (t u : TypeId) (x y : Operand) (ho : o.op = .binOp .neq t x y u) (X Y : Array Value) (hx : a.eval x = .agg X) (hy : a.eval y = .agg Y) (hg : P.eqGuardType P.depth t = false) (B : Bool) (he : (Op.equalIn 10000 t (.agg X) (.agg Y)).run P w = .ok B w)
 (h : wpList P ops Q rest (a.put o.dst (.bool (!B))) w) : wpList P ops Q (o :: rest) a w :=
 BigFrame.wpList_want hw fun _ hK => wp_world_op _ _ (run_neq_op t u x y ho X Y hx hy hg B he) (hK _ _ h)
def Fy (W : World) (base : Nat) (E : Value) (F : Array Value) : Prop := (E = .nilIface ∧ F = #[.int .i64 0, .int .i64 0, .int .i64 0]) ∨ ∃ g x, base ≤ g ∧ E = .iface 87 (.pointer (some ⟨g, 0, none⟩)) ∧ F = frw x ∧ x.why ≠ 0 ∧ W.heap[g]? = some (.cells (frw x) 35 (0, 0))
theorem Fy.keep {W V : World} {base : Nat} {E : Value} {F : Array Value} (h : Fy W base E F) (hb : Below W.heap.size W V) : Fy V base E F := by
 rcases h with h | ⟨g, x, h0, h1, h2, h3, h4⟩
 ·exact .inl h
 ·exact .inr ⟨g, x, h0, h1, h2, h3, Go.Proofs.YtjoohgkgkabbpaaGreatDoor.keep hb h4⟩
theorem Fy.row {W : World} {base : Nat} {E : Value} {F : Array Value} (h : Fy W base E F) {k : Nat} (hk : k < base) (C : Array Value) : Fy (W.setRow k C) base E F := by
 rcases h with h | ⟨g, x, h0, h1, h2, h3, h4⟩
 ·exact .inl h
 ·exact .inr ⟨g, x, h0, h1, h2, h3, (setRow_other W k g C (by omega)).trans h4⟩
theorem Fy.info {W : World} {base : Nat} {E : Value} {F : Array Value} (h : Fy W base E F) : (Tryz.prog.info? 35).map (·.size) = some F.size := by
 rcases h with ⟨_, rfl⟩ | ⟨g, x, _, _, rfl, _⟩
 ·kernel_rfl
 ·exact infoFrw x
theorem Fy.size {W : World} {base : Nat} {E : Value} {F : Array Value} (h : Fy W base E F) : F.size = 3 := by
 rcases h with ⟨_, rfl⟩ | ⟨g, x, _, _, rfl, _⟩ <;> rfl
theorem Fy.one {W : World} {base : Nat} {E : Value} {F : Array Value} (h : Fy W base E F) : F.all (·.oneCell') = true := by
 rcases h with ⟨_, rfl⟩ | ⟨g, x, _, _, rfl, _⟩
 ·simp [Value.oneCell']
 ·exact frw_one x
theorem l_faulty {base : Nat} {E : Value} {F : Array Value} (w : World) (hE : Ety w) (h : Fy w base E F) : Calls Tryz.prog 17 #[E, .agg F] w fun e w' => e = .returned (.bool true) ∧ Below w.heap.size w w' := by
 rcases h with ⟨rfl, rfl⟩ | ⟨g, x, _, rfl, rfl, h3, h4⟩
 ·exact l_faulty_nil 0 0 w
 ·exact l_faulty_hit x h3 g w hE h4
def bPd (d : List B) : Array Value := match par14 d with
 | none => pbn d
 | some _ => (brow (zr 32) (zr 32) (zr 32) false)
def gPd (d : List B) : Array Value := match par14 d with
 | none => #[.int .i64 0, .int .i64 0, .int .i64 0]
 | some x => frw x
theorem par14_why {d : List B} {x : Flt3} (h : par14 d = some x) : x.why ≠ 0 := by
 unfold par14 at h
 split at h
 ·rename_i hd
  injection h with h
  subst h
  exact dec8_why hd
 ·split at h
  ·cases h
  ·injection h with h
   subst h
   decide
theorem bPd_form (d : List B) : ∃ (i s o : List Int) (h : Bool), i.length = 32 ∧ s.length = 32 ∧ o.length = 32 ∧ bPd d = brow i s o h := by
 unfold bPd
 cases h : par14 d with
 | none =>
  have h8 : dec8 bsl d 0 = none := by
   unfold par14 at h
   split at h
   ·cases h
   ·assumption
  obtain ⟨_, i, s, o, fl, hfs, li, ls, lo, _⟩ := dec_bsl h8
  exact ⟨bl i, bl s, bl o, decide (fl = 1), by rw [bl_len, li], by rw [bl_len, ls], by rw [bl_len, lo], by simp only; unfold pbn; rw [hfs]; rfl⟩
 | some x => exact ⟨zr 32, zr 32, zr 32, false, zr_len 32, zr_len 32, zr_len 32, rfl⟩
theorem a_Parse2 (d : List B) (b : Value) (w : World) (hB : BysB w b d) (hcap : ∀ a l c, b = .slice a l c → l ≤ c) : Calls Tryz.prog 15 #[b] w fun e w' => ∃ E, e = .returned (.tuple #[.agg (bPd d), E]) ∧ Fy w' w.heap.size E (gPd d) ∧ Below w.heap.size w w' := by
 refine (a_Parse d b w hB hcap).mono ?_
 rintro e w' ⟨h, hb⟩
 unfold PrR at h
 unfold bPd gPd
 cases hd : par14 d with
 | none => rw [hd] at h; exact ⟨_, h, .inl ⟨rfl, rfl⟩, hb⟩
 | some x =>
  rw [hd] at h
  obtain ⟨g, h1, h2, h3⟩ := h
  exact ⟨_, h1, .inr ⟨g, x, h2, rfl, rfl, par14_why hd, h3⟩, hb⟩
theorem r_Parse2 (d : List B) (b : Value) (w : World) (hB : BysB w b d) (hcap : ∀ a l c, b = .slice a l c → l ≤ c) : Calls Tryz.prog 16 #[b] w fun e w' => e = .returned (.tuple #[.agg (bPd d), .agg (gPd d)]) ∧ Below w.heap.size w w' := by
 refine (r_Parse14 d b w hB hcap).mono ?_
 rintro e w' ⟨h, hb⟩
 unfold RrB at h
 unfold bPd gPd
 cases hd : par14 d with
 | none => rw [hd] at h; exact ⟨h, hb⟩
 | some x => rw [hd] at h; exact ⟨h, hb⟩
theorem wpList_val {P : Program} {ops : Array Oper} {Q : Exit → Act → World → Prop} {w : World} {rest : List Oper} {o : Oper} {a : Act} (hw : Region.wanted o (yielded ops a.tmps) = true) (v : Value) (he : (execOp a.eval o).run P w = .ok (.value v) w)
 (h : wpList P ops Q rest (a.put o.dst v) w) : wpList P ops Q (o :: rest) a w :=
 BigFrame.wpList_want hw fun _ hK => wp_world_op _ _ he (hK _ _ h)
theorem cat_nums (p q : List Int) : strOfNums p ++ strOfNums q = strOfNums (p ++ q) := by
 apply ByteArray.ext
 simp [strOfNums]
theorem op_cat {o : Oper} {a : Act} {W : World} (x y : Operand) (ho : o.op = .binOp .add 9 x y 9) (p q : List Int) (hx : a.eval x = .string (strOfNums p)) (hy : a.eval y = .string (strOfNums q)) (hl : p.length + q.length ≤ 9223372036854775807) : (execOp a.eval o).run Tryz.prog W = .ok (.value (.string (strOfNums (p ++ q)))) W := by
 have e : ¬ (((strOfNums p).size + (strOfNums q).size : Nat) : Int) > IntKind.i64.max := by
  rw [strOfNums_size, strOfNums_size]
  have : IntKind.i64.max = 9223372036854775807 := by decide
  omega
 unfold execOp
 simp only [ho, hx, hy, Sem.run_bind, Sem.run_pure]
 simp only [Go.binOp, Op.stringOp, if_neg e, Sem.run_pure, cat_nums]
 rfl
theorem op_conv {o : Oper} {a : Act} {W : World} (x : Operand) (ho : o.op = .convert 22 9 x) (v : Value) (hx : a.eval x = v) (bs : List Int) (h : Bys W v bs) : (execOp a.eval o).run Tryz.prog W = .ok (.value (.string (strOfNums bs))) W := by
 have := conv_bys10 h
 unfold execOp
 simp only [ho, hx, Sem.run_bind, Sem.run_pure, this, Result.andThen_ok]
theorem op_neqstr {o : Oper} {a : Act} {W : World} (x y : Operand) (ho : o.op = .binOp .neq 9 x y 9) (A : ByteArray) (hx : a.eval x = .string A) (hy : a.eval y = .string A) : (execOp a.eval o).run Tryz.prog W = .ok (.value (.bool false)) W := by
 unfold execOp
 simp only [ho, hx, hy, Sem.run_bind, Sem.run_pure]
 simp [Go.binOp, Op.stringOp, eqGuard]
def t3 : List Int := [7, 8, 9]
def t3b : List B := [7#8, 8#8, 9#8]
theorem bl_t3 : bl t3b = t3 := by decide
theorem mix3 (A C : List Int) (k : Nat) (h : A.length = C.length) (hk : k < C.length) : (mix A C k ++ t3).set k (A.getD k 0) = mix A C (k + 1) ++ t3 := by
 rw [List.set_append_left _ _ (by rw [mix_length A C k h (by omega)]; exact hk), mix_set A C k h hk]
theorem Fy.lt {W : World} {base : Nat} {E : Value} {F : Array Value} (h : Fy W base E F) : ∀ g, E = .iface 87 (.pointer (some ⟨g, 0, none⟩)) → g < W.heap.size := by
 rcases h with ⟨rfl, _⟩ | ⟨g, x, h0, rfl, h2, h3, h4⟩
 ·intro g h
  cases h
 ·intro k h
  cases h
  exact lt_of_row h4
theorem Fy.low {W V : World} {n base : Nat} {E : Value} {F : Array Value} (h : Fy W base E F) (hb : Below n W V) (hn : ∀ g, E = .iface 87 (.pointer (some ⟨g, 0, none⟩)) → g < n) : Fy V base E F := by
 rcases h with h | ⟨g, x, h0, h1, h2, h3, h4⟩
 ·exact .inl h
 ·exact .inr ⟨g, x, h0, h1, h2, h3, (hb.block g (hn g h1)).trans h4⟩
theorem own_set_row {W : World} {b g n : Nat} {e : TypeId} {v : Value} {xs : List Value} (h : W.ownsRow b e 1 v n xs) (hg : ∀ k, v.ownBlock = some k → k ≠ g) (cs : Array Value) : (W.setRow g cs).ownsRow b e 1 v n xs := by
 obtain ⟨h1, ⟨h2, h3⟩ | ⟨g', cap, cur, rfl, hb', h4, h5⟩⟩ := h
 ·exact ⟨h1, .inl ⟨h2, h3⟩⟩
 ·refine ⟨h1, .inr ⟨g', cap, cur, rfl, hb', ?_, h5⟩⟩
  rw [setRow_other W g g' cs (hg g' rfl)]
  exact h4
theorem ors_bys {W : World} {b g n c : Nat} {l : List Int} (h : W.ownsRow b 5 1 (.slice (some ⟨g, 0, none⟩) n c) n (l.map (Value.int .u8))) (hl : l.length = n) (hbd : ∀ z ∈ l, 0 ≤ z ∧ z < 256) (hn : n ≤ 140737488355328) : Bys W (.slice (some ⟨g, 0, none⟩) n c) l := by
 refine ⟨some ⟨g, 0, none⟩, c, by rw [hl], by omega, fun j hj => ?_, hbd⟩
 obtain ⟨c1, _⟩ := or_cell h (t := j) (by omega)
 exact ⟨g, 0, rfl, (or_high h).1, by rw [Nat.zero_add]; exact c1⟩
set_option maxRecDepth 100000 in
set_option maxHeartbeats 16000000 in
theorem agrParses_any (d : List B) (w : World) (dv : Value) (hE : Ety w) (hD : BysB w dv d) (hcap0 : ∀ a l c, dv = .slice a l c → l ≤ c) : Calls Tryz.prog 4 #[dv] w fun e w' => e = .returned (.bool true) ∧ Below w.heap.size w w' := by
 obtain ⟨rv, hrv⟩ : ∃ l, d.reverse = l := ⟨_, rfl⟩
 have pA := hide (fun (W : World) (u : Value) (h : BysB W u d) (hc : ∀ a l c, u = .slice a l c → l ≤ c) => a_Parse2 d u W h hc)
 have rA := hide (fun (W : World) (u : Value) (h : BysB W u d) (hc : ∀ a l c, u = .slice a l c → l ≤ c) => r_Parse2 d u W h hc)
 obtain ⟨i_, s_, o_, h_, q1, q2, q3, fH⟩ := bPd_form d
 obtain ⟨H, eH⟩ : ∃ H, bPd d = H := ⟨_, rfl⟩
 obtain ⟨F, eF⟩ : ∃ F, gPd d = F := ⟨_, rfl⟩
 rw [eH, eF] at pA rA
 rw [eH] at fH
 have iH : (Tryz.prog.info? 43).map (·.size) = some H.size := by rw [fH]; exact info_brow _ _ _ _ q1 q2 q3
 have zH : H.size = 97 := by rw [fH]; exact brow_size _ _ _ _ q1 q2 q3
 have oH : H.all (·.oneCell') = true := by rw [fH]; exact brow_one _ _ _ _
 have eqH : ∀ W : World, (Op.equalIn 10000 43 (.agg H) (.agg H)).run Tryz.prog W = .ok true W := fun W => by
  rw [fH, eq_bn _ _ _ _ _ _ _ _ q1 q2 q3 q1 q2 q3 W, decide_eq_true ⟨rfl, rfl, rfl, rfl⟩]
 replace iH := hide iH
 replace zH := hide zH
 replace oH := hide oH
 replace eqH := hide eqH
 clear fH eH eF q1 q2 q3 i_ s_ o_ h_
 have pT := hide (fun (W : World) (u : Value) (h : BysB W u rv) (hc : ∀ a l c, u = .slice a l c → l ≤ c) => a_Parse2 rv u W h hc)
 have rT := hide (fun (W : World) (u : Value) (h : BysB W u rv) (hc : ∀ a l c, u = .slice a l c → l ≤ c) => r_Parse2 rv u W h hc)
 obtain ⟨i_, s_, o_, h_, q1, q2, q3, fI⟩ := bPd_form rv
 obtain ⟨I, eI⟩ : ∃ H, bPd rv = H := ⟨_, rfl⟩
 obtain ⟨J, eJ⟩ : ∃ F, gPd rv = F := ⟨_, rfl⟩
 rw [eI, eJ] at pT rT
 rw [eI] at fI
 have iI : (Tryz.prog.info? 43).map (·.size) = some I.size := by rw [fI]; exact info_brow _ _ _ _ q1 q2 q3
 have zI : I.size = 97 := by rw [fI]; exact brow_size _ _ _ _ q1 q2 q3
 have oI : I.all (·.oneCell') = true := by rw [fI]; exact brow_one _ _ _ _
 have eqI : ∀ W : World, (Op.equalIn 10000 43 (.agg I) (.agg I)).run Tryz.prog W = .ok true W := fun W => by
  rw [fI, eq_bn _ _ _ _ _ _ _ _ q1 q2 q3 q1 q2 q3 W, decide_eq_true ⟨rfl, rfl, rfl, rfl⟩]
 replace iI := hide iI
 replace zI := hide zI
 replace oI := hide oI
 replace eqI := hide eqI
 clear fI eI eJ q1 q2 q3 i_ s_ o_ h_
 have hrl_ : rv.length = d.length := by rw [← hrv]; exact List.length_reverse
 have dl : rv.length ≤ d.length ∧ d.length ≤ rv.length := by omega
 have hrq := hide hrl_
 have hrw := hide hrv
 clear hrl_ hrv
 have hcap := hide hcap0
 clear hcap0
 have hE1 := hide (fun V (h : Below w.heap.size w V) => hE.keep h rfl)
 clear hE
 have hDh := hide (fun V (h : Below w.heap.size w V) => hD.keep h)
 have hDl := hD.2.1
 have hDb := hide (bys_bd hD.1)
 obtain ⟨dao, dcap, rfl⟩ := hD.form
 clear hD
 have hw : Below w.heap.size w (w.alloc (.cells #[] 5)) := (Below.refl _ _).alloc (Nat.le_refl _) _
 have hO0 := own_nil w
 go_enter Tryz.func4, Tryz.ntmps4
 go_wp2_with (at_builtin; refine wpList_append_B rfl (.tmp 9) (.tmp 10) rfl w.heap.size _ [] rfl hO0 _ d rfl (hDh.out _ hw) (by simp only [List.length_nil]; omega) hw.size ?_)
 intro v1_ x1 hO1 hgr
 replace hw := hw.grown hgr hw.size (fun k h => own_low hO0 k h)
 replace hO1 : Own x1 w.heap.size v1_ d := hO1
 clear hgr hO0
 generalize w.alloc (.cells #[] 5) = w0 at *
 obtain ⟨a1_, c1_, rfl⟩ := slen_own hO1
 have z3 : (x1.alloc (.cells #[.int .u8 7, .int .u8 8, .int .u8 9] 5)).heap[x1.heap.size]? = some (.cells (irow .u8 (bl t3b)) 5 (0, 0)) := hp1_0 x1 _
 have hba : Below x1.heap.size x1 (x1.alloc (.cells #[.int .u8 7, .int .u8 8, .int .u8 9] 5)) := (Below.refl _ _).alloc (Nat.le_refl _) _
 replace hO1 := hO1.keep hba
 replace hw := Below.after hw hba
 have hB3 := row_bysB z3 rfl (by decide) 3
 clear hba z3
 go_wp2_with (at_builtin; refine wpList_append_B rfl (.tmp 11) (.tmp 12) rfl w.heap.size _ d rfl hO1 _ t3b rfl hB3 (by rw [show t3b.length = 3 from rfl]; omega) hw.size ?_)
 intro v2_ x2 hO2 hgr
 replace hw := hw.grown hgr hw.size (fun k h => own_low hO1 k h)
 clear hgr hO1 hB3
 generalize x1.alloc (.cells #[.int .u8 7, .int .u8 8, .int .u8 9] 5) = x1b at *
 obtain ⟨g, cap, e2, hgc, hgb, hgl, _⟩ := own_range hO2 (by rw [List.length_append]; show 0 < _ + 3; omega)
 have eL : (d ++ t3b).length = d.length + 3 := by rw [List.length_append]; rfl
 rw [eL] at e2 hgc
 subst e2
 have hRo : x2.ownsRow w.heap.size 5 1 (.slice (some ⟨g, 0, none⟩) (d.length + 3) cap) (d.length + 3) ((bl d ++ t3).map (Value.int .u8)) := by
  have h : x2.ownsRow w.heap.size 5 1 (.slice (some ⟨g, 0, none⟩) (d.length + 3) cap) (d ++ t3b).length ((bl (d ++ t3b)).map (Value.int .u8)) := hO2
  rw [eL, bl_app, bl_t3] at h
  exact h
 have hBin := hide (fun (W : World) (x : List B) (hx : x.length = d.length) (h : W.ownsRow w.heap.size 5 1 (.slice (some ⟨g, 0, none⟩) (d.length + 3) cap) (d.length + 3) ((bl x ++ t3).map (Value.int .u8))) => show BysB W (.slice (some ⟨g, 0, none⟩) d.length cap) x from by
  rw [List.map_append] at h
  have h2 := or_prefix (m := d.length) (j := 3) h (by rw [List.length_map, bl_len, hx])
  have h3 : Own W w.heap.size (.slice (some ⟨g, 0, none⟩) d.length cap) x := by unfold Own; rw [hx]; exact h2
  exact h3.bysB (by omega))
 have hKp := hide (fun (W V : World) (l : List Int) (h : W.ownsRow w.heap.size 5 1 (.slice (some ⟨g, 0, none⟩) (d.length + 3) cap) (d.length + 3) ((l).map (Value.int .u8))) (hb : Below W.heap.size W V) => show V.ownsRow w.heap.size 5 1 (.slice (some ⟨g, 0, none⟩) (d.length + 3) cap) (d.length + 3) ((l).map (Value.int .u8)) from own_keep_row h hb)
 have hCi := hide (show ∀ a l c, (Value.slice (some ⟨g, 0, none⟩) d.length cap) = .slice a l c → l ≤ c from fun a l c h => by cases h; omega)
 clear hO2 eL
 have sIn := slice_to (some ⟨g, 0, none⟩) (d.length + 3) cap d.length (by omega)
 go_wp2_with (fail)
 have cX := pA.out x2 (.slice (some ⟨g, 0, none⟩) d.length cap) (hBin.out _ d rfl hRo) hCi.out
 refine cX.mono ?_
 rintro e_ a1 ⟨E, rfl, hFy, hb⟩
 clear cX
 replace hRo := hKp.out _ _ _ hRo hb
 replace hw := Below.after hw hb
 have sz_a1 := hb.size
 clear hb
 have z_ := hp1_0 a1 (.cells (brow (zr 32) (zr 32) (zr 32) false) 43)
 have R4 := hide (setRow_heap (a1.alloc (.cells (brow (zr 32) (zr 32) (zr 32) false) 43)) a1.heap.size _ H _ _ z_)
 have hb' : Hid (Below a1.heap.size a1 ((a1.alloc (.cells (brow (zr 32) (zr 32) (zr 32) false) 43)).setRow a1.heap.size H)) := hide (below_setRow ((Below.refl _ _).alloc (Nat.le_refl _) _) (Nat.le_refl _) _)
 go_wp2_with (first | (refine wpList_alloc rfl 43 rfl (brow (zr 32) (zr 32) (zr 32) false) zBnA ?_) | (refine wpList_store_row rfl 43 _ _ rfl (a1.heap.size) H rfl rfl 43 _ z_ iH.out (by rw [zH.out]; rfl) oH.out ?_; refine wpList_stay ?_) | fail)
 unfold WpStay
 try simp only [Act.put, List.setIfInBounds_toArray, List.set_cons_succ, List.set_cons_zero]
 replace R4 := R4.out
 have hb := hb'.out
 clear z_ hb'
 replace hRo := hKp.out _ _ _ hRo hb
 replace hFy := hFy.keep hb
 replace hw := Below.after hw hb
 have sz_a2 := hb.size
 clear hb
 generalize (a1.alloc (.cells (brow (zr 32) (zr 32) (zr 32) false) 43)).setRow a1.heap.size H = a2 at *
 generalize a1.heap.size = g4 at *
 go_wp2_with (fail)
 have cX := rA.out a2 _ (hDh.out _ hw) hcap.out
 refine cX.mono ?_
 rintro e_ a3 ⟨rfl, hb⟩
 clear cX
 replace hRo := hKp.out _ _ _ hRo hb
 have l_R4_a3 := lt_of_row R4
 replace R4 := keep hb R4
 replace hFy := hFy.keep hb
 replace hw := Below.after hw hb
 have sz_a3 := hb.size
 clear hb
 have z0 := hp2_0 a3 (.cells (brow (zr 32) (zr 32) (zr 32) false) 43) (.cells #[.int .i64 0, .int .i64 0, .int .i64 0] 35)
 have z1 := hp2_1 a3 (.cells (brow (zr 32) (zr 32) (zr 32) false) 43) (.cells #[.int .i64 0, .int .i64 0, .int .i64 0] 35)
 have y1 := (setRow_other ((a3.alloc (.cells (brow (zr 32) (zr 32) (zr 32) false) 43)).alloc (.cells #[.int .i64 0, .int .i64 0, .int .i64 0] 35)) a3.heap.size (a3.heap.size + 1) H (by omega)).trans z1
 have K6 := hide ((setRow_other (((a3.alloc (.cells (brow (zr 32) (zr 32) (zr 32) false) 43)).alloc (.cells #[.int .i64 0, .int .i64 0, .int .i64 0] 35)).setRow a3.heap.size H) (a3.heap.size + 1) a3.heap.size F (by omega)).trans (setRow_heap ((a3.alloc (.cells (brow (zr 32) (zr 32) (zr 32) false) 43)).alloc (.cells #[.int .i64 0, .int .i64 0, .int .i64 0] 35)) a3.heap.size _ H _ _ z0))
 have K7 := hide (setRow_heap (((a3.alloc (.cells (brow (zr 32) (zr 32) (zr 32) false) 43)).alloc (.cells #[.int .i64 0, .int .i64 0, .int .i64 0] 35)).setRow a3.heap.size H) (a3.heap.size + 1) _ F _ _ y1)
 have Kb := hide (below_setRow (below_setRow (((Below.refl a3.heap.size a3).alloc (Nat.le_refl _) (.cells (brow (zr 32) (zr 32) (zr 32) false) 43)).alloc (by simp) (.cells #[.int .i64 0, .int .i64 0, .int .i64 0] 35)) (Nat.le_refl _) H) (show a3.heap.size ≤ a3.heap.size + 1 by omega) F)
 have iF := hFy.info
 have zF := hFy.size
 have oF := hFy.one
 go_wp2_with (first | (refine wpList_alloc rfl 43 rfl (brow (zr 32) (zr 32) (zr 32) false) zBnA ?_) | (refine wpList_store_row rfl 43 _ _ rfl (a3.heap.size) H rfl rfl 43 _ z0 iH.out (by rw [zH.out]; rfl) oH.out ?_) | (refine wpList_store_row rfl 35 _ _ rfl (a3.heap.size + 1) F rfl rfl 35 _ y1 iF (by rw [zF]; rfl) oF ?_; refine wpList_stay ?_) | fail)
 unfold WpStay
 try simp only [Act.put, List.setIfInBounds_toArray, List.set_cons_succ, List.set_cons_zero]
 have hb := Kb.out
 have R6 := K6.out
 have R7 := K7.out
 clear z0 z1 y1 Kb K6 K7
 replace hRo := hKp.out _ _ _ hRo hb
 have l_R4_a4 := lt_of_row R4
 replace R4 := keep hb R4
 replace hFy := hFy.keep hb
 replace hw := Below.after hw hb
 have sz_a4 := hb.size
 clear hb
 generalize (((a3.alloc (.cells (brow (zr 32) (zr 32) (zr 32) false) 43)).alloc (.cells #[.int .i64 0, .int .i64 0, .int .i64 0] 35)).setRow a3.heap.size H).setRow (a3.heap.size + 1) F = a4 at *
 generalize a3.heap.size = g6 at *
 go_wp2_with (first | (refine wpList_load_want rfl 43 _ rfl g4 rfl 43 H (0, 0) _ R4 Tryz.underlying43 rfl iH.out ?_) | (refine wpList_load_want rfl 43 _ rfl g6 rfl 43 H (0, 0) _ R6 Tryz.underlying43 rfl iH.out ?_) | (refine wpList_neqS rfl 43 43 _ _ rfl H H rfl rfl (by kernel_rfl) true (eqH.out _) ?_) | (refine wpList_load_want rfl 35 _ rfl (g6 + 1) rfl 35 F (0, 0) _ R7 Tryz.underlying35 rfl iF ?_) | fail)
 have cX := l_faulty a4 (hE1.out _ hw) hFy
 refine cX.mono ?_
 rintro e_ a5 ⟨rfl, hb⟩
 clear cX
 replace hRo := hKp.out _ _ _ hRo hb
 have l_R4_a5 := lt_of_row R4
 have l_R6_a5 := lt_of_row R6
 have l_R7_a5 := lt_of_row R7
 replace R4 := keep hb R4
 replace R6 := keep hb R6
 replace R7 := keep hb R7
 replace hw := Below.after hw hb
 have sz_a5 := hb.size
 clear hb
 clear hFy
 have bI : Bys a5 (.slice (some ⟨g, 0, none⟩) (d.length + 3) cap) (bl d ++ t3) := ors_bys hRo (by rw [List.length_append, bl_len]; rfl) (fun z hz => by
  rcases List.mem_append.1 hz with h | h
  ·exact hDb.out z h
  ·unfold t3 at h
   simp at h
   omega) (by omega)
 have bD := (hDh.out _ hw).1
 go_wp2_with (first | (refine wpList_val rfl _ (op_conv _ rfl (.slice (some ⟨g, 0, none⟩) (d.length + 3) cap) rfl (bl d ++ t3) bI) ?_) | (refine wpList_val rfl _ (op_conv _ rfl (.slice dao d.length dcap) rfl (bl d) bD) ?_) | (refine wpList_val rfl _ (op_cat _ _ rfl (bl d) t3 rfl rfl (by rw [bl_len]; show _ + 3 ≤ _; omega)) ?_) | (refine wpList_val rfl _ (op_neqstr _ _ rfl (strOfNums (bl d ++ t3)) rfl rfl) ?_) | fail)
 clear bI bD
 have r0 : a5.ownsRow w.heap.size 5 1 (.slice (some ⟨g, 0, none⟩) (d.length + 3) cap) (d.length + 3) ((mix (bl d).reverse (bl d) 0 ++ t3).map (Value.int .u8)) := by rw [mix_zero]; exact hRo
 have hrl : (bl d).reverse.length = (bl d).length := by simp
 have hbl : (bl d).length = d.length := bl_len d
 have kg : g ≠ g4 ∧ g ≠ g6 ∧ g ≠ g6 + 1 ∧ w.heap.size ≤ g ∧ w.heap.size ≤ g4 ∧ w.heap.size ≤ g6 ∧ g4 ≠ g6 ∧ g4 ≠ g6 + 1 := by omega
 clear hRo
 go_loopw [8] (fun i wr => ∃ k : Nat, k ≤ d.length ∧ i = .int .i64 k ∧ wr.ownsRow w.heap.size 5 1 (.slice (some ⟨g, 0, none⟩) (d.length + 3) cap) (d.length + 3) ((mix (bl d).reverse (bl d) k ++ t3).map (Value.int .u8)) ∧ wr.heap[g4]? = some (.cells H 43 (0, 0)) ∧ wr.heap[g6]? = some (.cells H 43 (0, 0)) ∧ wr.heap[g6 + 1]? = some (.cells F 35 (0, 0)) ∧ Below w.heap.size w wr) (fun i _ => d.length - (intOf i).toNat)
 case atStart => exact ⟨0, by omega, rfl, r0, R4, R6, R7, hw⟩
 case round =>
  clear r0 R4 R6 R7 hw
  obtain ⟨k, hk, rfl, r0, R4, R6, R7, hw⟩ := hrel
  by_cases hlt : k < d.length
  ·have hd : decide ((k : Int) < (d.length : Int)) = true := by simp; omega
   obtain ⟨ao, cp, e_, _, hc, _⟩ := (hDh.out _ hw).1
   rw [hbl] at e_ hc
   cases e_
   obtain ⟨b, off, rfl, hb1, hb2⟩ := hc (d.length - 1 - k) (by omega)
   have hset := mix3 (bl d).reverse (bl d) k hrl (by omega)
   rw [rv_get (bl d) k (by omega), hbl] at hset
   obtain ⟨cc, cf⟩ := or_cell r0 (t := k) (by omega)
   have r2 := (or_set (t := k) (z := (bl d).getD (d.length - 1 - k) 0) r0).resolve_right (by omega)
   rw [hset] at r2
   have hw2 := hide (hw.setCell (show w.heap.size ≤ (⟨g, k, none⟩ : Addr).block from kg.2.2.2.1) (.int .u8 ((bl d).getD (d.length - 1 - k) 0)))
   have R42 := hide (heap_other (v := .int .u8 ((bl d).getD (d.length - 1 - k) 0)) (j := k) R4 (Ne.symm kg.1))
   have R62 := hide (heap_other (v := .int .u8 ((bl d).getD (d.length - 1 - k) 0)) (j := k) R6 (Ne.symm kg.2.1))
   have R72 := hide (heap_other (v := .int .u8 ((bl d).getD (d.length - 1 - k) 0)) (j := k) R7 (Ne.symm kg.2.2.1))
   have ej2 : (d.length : Int) - 1 - (k : Int) = ((d.length - 1 - k : Nat) : Int) := by omega
   have hjl : d.length - 1 - k < d.length := by omega
   replace r2 := hide r2
   clear r0 hw hset R4 R6 R7 hc
   generalize (bl d).getD (d.length - 1 - k) 0 = z at *
   generalize (mix (bl d).reverse (bl d) k ++ t3).getD k 0 = y at *
   go_wp2_with (fail)
   refine ⟨⟨k + 1, by omega, by go_num, r2.out, R42.out, R62.out, R72.out, hw2.out⟩, ?_⟩
   simp [intOf]; omega
  ·obtain rfl : k = d.length := by omega
   have hd : decide ((d.length : Int) < (d.length : Int)) = false := by simp
   have em := mix_all (bl d).reverse (bl d) hrl
   rw [hbl] at em
   rw [em, show (bl d).reverse = bl rv from (by rw [← hrw.out]; unfold bl; rw [List.map_reverse])] at r0
   have hRo := r0
   clear r0 em
   go_wp2_with (fail)
   have cX := pT.out wr (.slice (some ⟨g, 0, none⟩) d.length cap) (hBin.out _ rv hrq.out hRo) hCi.out
   refine cX.mono ?_
   rintro e_ a8 ⟨E2, rfl, hFy, hb⟩
   clear cX
   replace hRo := hKp.out _ _ _ hRo hb
   have l_R4_a8 := lt_of_row R4
   have l_R6_a8 := lt_of_row R6
   have l_R7_a8 := lt_of_row R7
   replace R4 := keep hb R4
   replace R6 := keep hb R6
   replace R7 := keep hb R7
   replace hw := Below.after hw hb
   have sz_a8 := hb.size
   clear hb
   have S4 := hide (setRow_heap a8 g4 _ I _ _ R4)
   have hw2 := hide (below_setRow hw (show w.heap.size ≤ g4 by omega) I)
   have S6 := hide ((setRow_other a8 g4 g6 I (by omega)).trans R6)
   have S7 := hide ((setRow_other a8 g4 (g6 + 1) I (by omega)).trans R7)
   have hF2 := hide (hFy.row (k := g4) (by omega) I)
   have hR2 := hide (own_set_row (g := g4) hRo (fun k h => by have h2 : g = k := Option.some.inj h; omega) I)
   clear R6 R7 hw hFy hRo
   go_wp2_with (first | (refine wpList_store_row rfl 43 _ _ rfl (g4) I rfl rfl 43 _ R4 iI.out (by rw [zI.out, zH.out]) oI.out ?_; refine wpList_stay ?_) | fail)
   unfold WpStay
   try simp only [Act.put, List.setIfInBounds_toArray, List.set_cons_succ, List.set_cons_zero]
   clear R4
   have R4 := S4.out
   have hw := hw2.out
   have R6 := S6.out
   have R7 := S7.out
   have hFy := hF2.out
   have hRo := hR2.out
   clear S4 hw2 S6 S7 hF2 hR2
   have hFl := hFy.lt
   have szb : a8.heap.size ≤ (a8.setRow g4 I).heap.size ∧ (a8.setRow g4 I).heap.size ≤ a8.heap.size := by simp
   generalize a8.setRow g4 I = b1 at *
   have hb0 : Below b1.heap.size b1 (b1.alloc (.cells #[] 5)) := (Below.refl _ _).alloc (Nat.le_refl _) _
   have hO0 := own_nil b1
   have hBd := (hBin.out _ rv hrq.out hRo).keep hb0
   have lb1 := hw.size
   have l_R4_b1b := lt_of_row R4
   have l_R6_b1b := lt_of_row R6
   have l_R7_b1b := lt_of_row R7
   replace R4 := keep hb0 R4
   replace R6 := keep hb0 R6
   replace R7 := keep hb0 R7
   replace hFy := hFy.keep hb0
   replace hw := Below.after hw hb0
   have sz_b1b := hb0.size
   clear hb0
   go_wp2_with (at_builtin; refine wpList_append_B rfl (.tmp 70) (.tmp 74) rfl b1.heap.size _ [] rfl hO0 _ rv rfl hBd (by simp only [List.length_nil]; omega) sz_b1b ?_)
   intro v3_ b2 hO3 hgr
   have hb : Below b1.heap.size (b1.alloc (.cells #[] 5)) b2 := (Below.refl _ _).grown hgr sz_b1b (fun k h => own_low hO0 k h)
   replace hO3 : Own b2 b1.heap.size v3_ rv := hO3
   replace R4 := (hb.block _ (by have := l_R4_b1b; omega)).trans R4
   replace R6 := (hb.block _ (by have := l_R6_b1b; omega)).trans R6
   replace R7 := (hb.block _ (by have := l_R7_b1b; omega)).trans R7
   replace hFy := hFy.low hb hFl
   replace hw := hw.trans (hb.mono lb1)
   clear hgr hO0 hb hBd hRo
   generalize b1.alloc (.cells #[] 5) = b1z at *
   obtain ⟨a3_, c3_, rfl⟩ := slen_own hO3
   have cX := hide (rT.out b2 _ (hO3.bysB (by omega)) (own_cap hO3))
   clear hO3
   go_wp2_with (fail)
   refine cX.out.mono ?_
   rintro e_ b3 ⟨rfl, hb⟩
   clear cX
   have l_R4_b3 := lt_of_row R4
   have l_R6_b3 := lt_of_row R6
   have l_R7_b3 := lt_of_row R7
   replace R4 := keep hb R4
   replace R6 := keep hb R6
   replace R7 := keep hb R7
   replace hFy := hFy.keep hb
   replace hw := Below.after hw hb
   have sz_b3 := hb.size
   clear hb
   have iJ := hFy.info
   have zJ := hFy.size
   have oJ := hFy.one
   have y7 := (setRow_other b3 g6 (g6 + 1) I (by omega)).trans R7
   have S4 := hide ((setRow_other (b3.setRow g6 I) (g6 + 1) g4 J (by omega)).trans ((setRow_other b3 g6 g4 I (by omega)).trans R4))
   have S6 := hide ((setRow_other (b3.setRow g6 I) (g6 + 1) g6 J (by omega)).trans (setRow_heap b3 g6 _ I _ _ R6))
   have S7 := hide (setRow_heap (b3.setRow g6 I) (g6 + 1) _ J _ _ y7)
   have hw2 := hide (below_setRow (below_setRow hw (show w.heap.size ≤ g6 by omega) I) (show w.heap.size ≤ g6 + 1 by omega) J)
   have hF2 := hide ((hFy.row (k := g6) (by omega) I).row (k := g6 + 1) (by omega) J)
   clear hw hFy R4
   go_wp2_with (first | (refine wpList_store_row rfl 43 _ _ rfl (g6) I rfl rfl 43 _ R6 iI.out (by rw [zI.out, zH.out]) oI.out ?_) | (refine wpList_store_row rfl 35 _ _ rfl (g6 + 1) J rfl rfl 35 _ y7 iJ (by rw [zJ, zF]) oJ ?_; refine wpList_stay ?_) | fail)
   unfold WpStay
   try simp only [Act.put, List.setIfInBounds_toArray, List.set_cons_succ, List.set_cons_zero]
   clear y7 R6 R7
   have R4 := S4.out
   have R6 := S6.out
   have R7 := S7.out
   have hw := hw2.out
   have hFy := hF2.out
   clear S4 S6 S7 hw2 hF2
   generalize (b3.setRow g6 I).setRow (g6 + 1) J = b4 at *
   go_wp2_with (first | (refine wpList_load_want rfl 43 _ rfl g4 rfl 43 I (0, 0) _ R4 Tryz.underlying43 rfl iI.out ?_) | (refine wpList_load_want rfl 43 _ rfl g6 rfl 43 I (0, 0) _ R6 Tryz.underlying43 rfl iI.out ?_) | (refine wpList_eql rfl 43 43 _ _ rfl I I rfl rfl (by kernel_rfl) true (eqI.out _) ?_) | (refine wpList_load_want rfl 35 _ rfl (g6 + 1) rfl 35 J (0, 0) _ R7 Tryz.underlying35 rfl iJ ?_) | fail)
   have cX := l_faulty b4 (hE1.out _ hw) hFy
   refine cX.mono ?_
   rintro e_ b5 ⟨rfl, hb⟩
   replace hw := Below.after hw hb
   clear cX hb
   go_wp2_with (fail)
   go_ret
   exact ⟨rfl, hw⟩
end Go.Proofs.YtjoohgkgkabbpaaGreatDoor

