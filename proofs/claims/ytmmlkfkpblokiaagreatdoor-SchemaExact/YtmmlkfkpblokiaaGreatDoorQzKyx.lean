import Derived.Test.YtmmlkfkpblokiaaGreatDoorQzKys
import Derived.LaidEql
import Derived.Stop.Asserts
import Derived.RowKitTokens
set_option maxRecDepth 100000
set_option maxHeartbeats 16000000
namespace Go.Proofs.YtmmlkfkpblokiaaGreatDoor
open Go Go.RowKit Go.Sort
attribute [local go_sem] setCell_drewN alloc_drewN
theorem r_DecodeT {g:Nat} {ts:List Slt} (hv:vld ts=0) (d:List B) (bv:Value) (w:World) (hC:Rdc w g ts) (hB:BysB w bv d) (hcap:∀a l c,bv=.slice a l c→l≤c):
 Calls Tryz.prog 18 #[.pointer (some ⟨g,0,none⟩),bv] w (VaQ w (fun b=>w.heap.size≤b) (deT utD flD ts d 0) (mgT ts d)):=by
 have ok:=vld_ok hv;obtain⟨u,hg,hS⟩:=hC;obtain⟨so,sc,rfl⟩:=hS.form;have R6:=hp2_0 w (.cells #[.int .u64 0,nS,nS] 27) (.cells #[.int .i64 0,.int .i64 0,.int .i64 0] 41);have R7:=hp2_1 w (.cells #[.int .u64 0,nS,nS] 27) (.cells #[.int .i64 0,.int .i64 0,.int .i64 0] 41)
 have hw:Below w.heap.size w ((w.alloc (.cells #[.int .u64 0,nS,nS] 27)).alloc (.cells #[.int .i64 0,.int .i64 0,.int .i64 0] 41)):=((Below.refl _ _).alloc (Nat.le_refl _) _).alloc (by simp) _
 have lg:=lt_of_row hg;have l70:=lt_of_row R7;have hdle:d.length≤140737488355000:=hB.2.1;have cg:=hide (cell_of_row _ _ 0 _ _ _ (keep hw hg))
 have cD:=hide (r_decodeA (htT ts).toNat ts (Int.self_le_toNat _) ok.2.2.1 _ d bv 0 ((w.alloc (.cells #[.int .u64 0,nS,nS] 27)).alloc (.cells #[.int .i64 0,.int .i64 0,.int .i64 0] 41)) (by decide) (by omega) (hS.keep hw) (hB.keep hw) hcap)
 generalize ts.length=sn at *
 obtain⟨ba,bc,rfl⟩:=hB.form
 generalize hdl:d.length=dl at *
 replace hdl:=hide hdl;clear hS hB hcap hg ok
 go_enter Tryz.func18,Tryz.ntmps18
 go_upto_region 1 with(fail)
 generalize ((w.alloc (.cells #[.int .u64 0,nS,nS] 27)).alloc (.cells #[.int .i64 0,.int .i64 0,.int .i64 0] 41))=w0 at *
 have cg0:=cg.out
 go_wp2_with (fail)
 refine cD.out.mono ?_;rintro e_ w1 ⟨hD,hb⟩;replace R6:=keep hb R6;replace R7:=keep hb R7;have szb:=hb.size;replace hw:=Below.after hw hb;clear hb cD cg cg0;obtain⟨R,hR⟩:∃R,deT utD flD ts d 0=R:=⟨_,rfl⟩;rw[hR] at hD
 cases R with
 |some x=>
  obtain rfl:=hD
  unfold frw at *
  replace hR:=hide hR
  have oneA:(#[Value.int .u64 0,nS,nS]:Array Value).all (·.oneCell')=true:=by simp[Value.oneCell']
  have oneB:(#[Value.int .i64 x.line,.int .i64 x.at_,.int .i64 x.why]:Array Value).all (·.oneCell')=true:=by simp[Value.oneCell']
  have R7b:=(setRow_other w1 (w.heap.size) (w.heap.size+1) #[.int .u64 0,nS,nS] (by omega)).trans R7
  go_wp2_with (first|(refine wpList_store_row rfl 27 _ _ rfl (w.heap.size) #[.int .u64 0,nS,nS] rfl rfl 27 _ R6 infoV rfl oneA ?_)|(refine wpList_store_row rfl 41 _ _ rfl (w.heap.size+1) #[.int .i64 x.line,.int .i64 x.at_,.int .i64 x.why] rfl rfl 41 _ R7b infoFt rfl oneB ?_)|fail)
  clear R7b
  replace R7:=(setRow_other w1 (w.heap.size) (w.heap.size+1) #[.int .u64 0,nS,nS] (by omega)).trans R7
  replace R6:=setRow_heap w1 (w.heap.size) _ (#[.int .u64 0,nS,nS]) _ _ R6
  replace hw:=below_setRow hw (show w.heap.size≤w.heap.size by omega) #[.int .u64 0,nS,nS]
  generalize hx3:w1.setRow (w.heap.size) #[.int .u64 0,nS,nS]=x3 at *
  replace hx3:=hide hx3
  replace R6:=(setRow_other x3 (w.heap.size+1) (w.heap.size) #[.int .i64 x.line,.int .i64 x.at_,.int .i64 x.why] (by omega)).trans R6
  replace R7:=setRow_heap x3 (w.heap.size+1) _ (#[.int .i64 x.line,.int .i64 x.at_,.int .i64 x.why]) _ _ R7
  replace hw:=below_setRow hw (show w.heap.size≤w.heap.size+1 by omega) #[.int .i64 x.line,.int .i64 x.at_,.int .i64 x.why]
  exact bodyPost_ret (v:=.tuple #[.agg #[.int .u64 0,nS,nS],.agg #[.int .i64 x.line,.int .i64 x.at_,.int .i64 x.why]]) (results_cell_cell Tryz.results18 _ _ (w.heap.size) (w.heap.size+1) _ _ _ _ _ _ _ _ rfl R6 Tryz.underlying27 rfl infoV rfl R7 Tryz.underlying41 rfl infoFt) rfl (by unfold VaQ;exact⟨by rw[hR.out];rfl,hw⟩)
 |none=>
  obtain⟨⟨xn,xda,xdl,xdc,xpa,xpl,xpc⟩,rfl,hv1⟩:=hD;unfold vrv vrw;dsimp only;replace hR:=hide hR
  have hv2:=hv1.other (w.heap.size) #[.int .u64 (xn:Int),.slice xda xdl xdc,.slice xpa xpl xpc] (T:=fun b=>w0.heap.size≤b) (fun b hb_=>⟨by omega,hb_⟩)
  have hv3:=hide (hv2.other (w.heap.size+1) #[.int .i64 0,.int .i64 0,.int .i64 0] (T:=fun b=>w.heap.size≤b) (fun b hb_=>⟨by omega,by omega⟩))
  clear hv1 hv2
  have oneA:(#[Value.int .u64 (xn:Int),.slice xda xdl xdc,.slice xpa xpl xpc]:Array Value).all (·.oneCell')=true:=by simp[Value.oneCell']
  have oneB:(#[Value.int .i64 0,.int .i64 0,.int .i64 0]:Array Value).all (·.oneCell')=true:=by simp[Value.oneCell']
  have R7b:=(setRow_other w1 (w.heap.size) (w.heap.size+1) #[.int .u64 (xn:Int),.slice xda xdl xdc,.slice xpa xpl xpc] (by omega)).trans R7
  go_wp2_with (first|(refine wpList_store_row rfl 27 _ _ rfl (w.heap.size) #[.int .u64 (xn:Int),.slice xda xdl xdc,.slice xpa xpl xpc] rfl rfl 27 _ R6 infoV rfl oneA ?_)|(refine wpList_store_row rfl 41 _ _ rfl (w.heap.size+1) #[.int .i64 0,.int .i64 0,.int .i64 0] rfl rfl 41 _ R7b infoFt rfl oneB ?_)|fail)
  clear R7b
  replace R7:=(setRow_other w1 (w.heap.size) (w.heap.size+1) #[.int .u64 (xn:Int),.slice xda xdl xdc,.slice xpa xpl xpc] (by omega)).trans R7
  replace R6:=setRow_heap w1 (w.heap.size) _ (#[.int .u64 (xn:Int),.slice xda xdl xdc,.slice xpa xpl xpc]) _ _ R6
  replace hw:=below_setRow hw (show w.heap.size≤w.heap.size by omega) #[.int .u64 (xn:Int),.slice xda xdl xdc,.slice xpa xpl xpc]
  generalize hx3:w1.setRow (w.heap.size) #[.int .u64 (xn:Int),.slice xda xdl xdc,.slice xpa xpl xpc]=x3 at *
  replace hx3:=hide hx3
  replace R6:=(setRow_other x3 (w.heap.size+1) (w.heap.size) #[.int .i64 0,.int .i64 0,.int .i64 0] (by omega)).trans R6
  replace R7:=setRow_heap x3 (w.heap.size+1) _ (#[.int .i64 0,.int .i64 0,.int .i64 0]) _ _ R7
  replace hw:=below_setRow hw (show w.heap.size≤w.heap.size+1 by omega) #[.int .i64 0,.int .i64 0,.int .i64 0]
  exact bodyPost_ret (v:=.tuple #[.agg #[.int .u64 (xn:Int),.slice xda xdl xdc,.slice xpa xpl xpc],.agg #[.int .i64 0,.int .i64 0,.int .i64 0]]) (results_cell_cell Tryz.results18 _ _ (w.heap.size) (w.heap.size+1) _ _ _ _ _ _ _ _ rfl R6 Tryz.underlying27 rfl infoV rfl R7 Tryz.underlying41 rfl infoFt) rfl (by unfold VaQ;exact⟨by rw[hR.out];exact⟨⟨xn,xda,xdl,xdc,xpa,xpl,xpc⟩,rfl,hv3.out⟩,hw⟩)
end Go.Proofs.YtmmlkfkpblokiaaGreatDoor
namespace Go.Proofs.YtmmlkfkpblokiaaGreatDoor
open Go Go.RowKit Go.Extern.Stop Go.Stop Go.Extern
theorem as_valueOf27 (t:Addr) (w:World):(ReflectliteValue.unpack (.iface 72 (.pointer (some t)))).run Tryz.prog w
 =.ok (.agg #[.pointer (some ⟨4,72,none⟩),.pointer (some ⟨w.heap.size,0,none⟩),.int .u64 150]) (w.alloc (.cells #[.pointer (some t)] 72)):=by kernel_rfl
theorem as_type27 (a : Addr) (w : World) : (ReflectliteValue.methodAny (ReflectliteValue.valueError "reflectlite.Value.Type" 0) (fun t _ _ _ => ReflectliteType.toType t) #[.agg #[.pointer (some ⟨4, 72, none⟩), .pointer (some a), .int .u64 150]]).run Tryz.prog w
 =.ok (.iface 144 (.agg #[.pointer (some ⟨4,72,none⟩)])) w:=by kernel_rfl
theorem as_methodKind (h : Value) (w : World) : (Go.method 356 144 (.agg #[h]) "Kind").run Tryz.prog w = .ok (156, h) w := by kernel_rfl
theorem as_kind27 (w:World):((ReflectliteType.abiMethod fun t=>(fun a:Nat=>Value.int IntKind.u8 (a:Int))<$>Rtype.kind t) #[.pointer (some ⟨4,72,none⟩)]).run Tryz.prog w=.ok (.int .u8 22) w:=by kernel_rfl
theorem as_kind25 (w:World):((ReflectliteType.abiMethod fun t=>(fun a:Nat=>Value.int IntKind.u8 (a:Int))<$>Rtype.kind t) #[.pointer (some ⟨4,70,none⟩)]).run Tryz.prog w=.ok (.int .u8 22) w:=by kernel_rfl
theorem as_rlm (z:Sem Value) (f:TypeId→Addr→Nat→Nat→Sem Value) (v:Value):
 ReflectliteValue.method z f #[v]=(do match←ReflectliteValue.parts v with|none=>z|some (t,a,fl)=>f t a fl (fl%32)):=rfl
theorem as_parts27 (a:Addr) (w:World):(ReflectliteValue.parts (.agg #[.pointer (some ⟨4,72,none⟩),.pointer (some a),.int .u64 150])).run Tryz.prog w=.ok (some (72,a,150)) w:=by kernel_rfl
theorem as_isNil27 (a p:Addr) (W:World) (ha:W.cell? a=some (.pointer (some p))):
 (ReflectliteValue.method (ReflectliteValue.valueError "reflectlite.Value.IsNil" 0) ReflectliteValue.isNil #[.agg #[.pointer (some ⟨4, 72, none⟩), .pointer (some a), .int .u64 150]]).run Tryz.prog W = .ok (.bool false) W := by
 rw[as_rlm];simp only[Sem.run_bind,as_parts27,Result.andThen]
 simp[ReflectliteValue.isNil,loadVar,isAgg,underlying,Tryz.underlying72,ha,Result.andThen]
theorem as_methodElem (h : Value) (w : World) : (Go.method 356 144 (.agg #[h]) "Elem").run Tryz.prog w = .ok (170, .agg #[h]) w := by kernel_rfl
theorem as_methodImplements (h : Value) (w : World) : (Go.method 356 144 (.agg #[h]) "Implements").run Tryz.prog w = .ok (171, .agg #[h]) w := by kernel_rfl
theorem as_methodAssignableTo (h : Value) (w : World) : (Go.method 356 144 (.agg #[h]) "AssignableTo").run Tryz.prog w = .ok (168, .agg #[h]) w := by kernel_rfl
theorem as_elem27 (w:World):(ReflectliteType.method ReflectliteType.elem #[.agg #[.pointer (some ⟨4,72,none⟩)]]).run Tryz.prog w=.ok (.iface 144 (.agg #[.pointer (some ⟨4,70,none⟩)])) w:=by kernel_rfl
theorem as_implements25 (w : World) : (ReflectliteType.relation "Implements" ReflectliteType.implements_ #[.agg #[.pointer (some ⟨4, 70, none⟩)], .iface 144 (.agg #[.pointer (some ⟨4, 37, none⟩)])]).run Tryz.prog w = .ok (.bool true) w := by kernel_rfl
theorem as_typeOf25 (v:Value) (w:World):(ReflectliteType.typeOf #[.iface 70 v]).run Tryz.prog w=.ok (.iface 144 (.agg #[.pointer (some ⟨4,70,none⟩)])) w:=by kernel_rfl
theorem as_assignable25 (w : World) : (ReflectliteType.relation "AssignableTo" ReflectliteType.assignableTo #[.agg #[.pointer (some ⟨4, 70, none⟩)], .iface 144 (.agg #[.pointer (some ⟨4, 70, none⟩)])]).run Tryz.prog w = .ok (.bool true) w := by kernel_rfl
theorem as_valueOf25 (e:Addr) (w:World):(ReflectliteValue.unpack (.iface 70 (.pointer (some e)))).run Tryz.prog w
 =.ok (.agg #[.pointer (some ⟨4,70,none⟩),.pointer (some ⟨w.heap.size,0,none⟩),.int .u64 150]) (w.alloc (.cells #[.pointer (some e)] 70)):=by kernel_rfl
theorem as_elemOf27 (w:World):(Rtype.elem? 72).run Tryz.prog w=.ok (some 70) w:=by kernel_rfl
theorem as_mk25 (p:Addr) (w:World):(ReflectliteValue.mk 70 p ReflectliteValue.flagAddr).run Tryz.prog w=.ok (.agg #[.pointer (some ⟨4,70,none⟩),.pointer (some p),.int .u64 406]) w:=by kernel_rfl
theorem as_elemV27 (a p:Addr) (W:World) (ha:W.cell? a=some (.pointer (some p))):
 (ReflectliteValue.method (ReflectliteValue.valueError "reflectlite.Value.Elem" 0) ReflectliteValue.elem #[.agg #[.pointer (some ⟨4, 72, none⟩), .pointer (some a), .int .u64 150]]).run Tryz.prog W
  =.ok (.agg #[.pointer (some ⟨4,70,none⟩),.pointer (some p),.int .u64 406]) W:=by
 rw[as_rlm];simp only[Sem.run_bind,as_parts27,Result.andThen]
 simp[ReflectliteValue.elem,loadVar,isAgg,underlying,Tryz.underlying72,ha,Result.andThen,as_elemOf27,as_mk25]
theorem as_rls (v x:Value):ReflectliteValue.set #[v,x]=(do
 let(some (dst,a,fl),some (src,b,_)):=(←ReflectliteValue.parts v,←ReflectliteValue.parts x)
  | unsupported (.noEntry "extern/(internal/reflectlite.Value).Set.zeroValue")
 if fl / ReflectliteValue.flagAddr % 2 == 0 then unsupported (.noEntry "extern/(internal/reflectlite.Value).Set.unaddressable")
 let val←loadVar src b
 if←Rtype.directlyAssignable dst src then storeVar dst a val
 else if←Rtype.implements dst src then
  if(←Rtype.kind src)==20 then
   match val with
   | .nilIface => unsupported (.noEntry "extern/reflectlite: a nil value of one interface type handed on as a value of another")
   |_=>storeVar dst a val
  else storeVar dst a (.iface src val)
 else panicString ("reflectlite.Set: value of type " ++ (← Rtype.spelt src) ++ " is not assignable to type " ++ (← Rtype.spelt dst))
 pure (.tuple #[])):=rfl
theorem as_parts25a (a:Addr) (w:World):(ReflectliteValue.parts (.agg #[.pointer (some ⟨4,70,none⟩),.pointer (some a),.int .u64 406])).run Tryz.prog w=.ok (some (70,a,406)) w:=by kernel_rfl
theorem as_parts25 (a:Addr) (w:World):(ReflectliteValue.parts (.agg #[.pointer (some ⟨4,70,none⟩),.pointer (some a),.int .u64 150])).run Tryz.prog w=.ok (some (70,a,150)) w:=by kernel_rfl
theorem as_direct25 (w:World):(Rtype.directlyAssignable 70 70).run Tryz.prog w=.ok true w:=by kernel_rfl
theorem as_set25 (ta b e:Addr) (old:Value) (W:World) (hb:W.cell? b=some (.pointer (some e))) (ht:W.cell? ta=some old) (hf:W.frozen? ta=false):
 (ReflectliteValue.set #[.agg #[.pointer (some ⟨4,70,none⟩),.pointer (some ta),.int .u64 406],.agg #[.pointer (some ⟨4,70,none⟩),.pointer (some b),.int .u64 150]]).run Tryz.prog W
  =.ok (.tuple #[]) (W.setCell ta (.pointer (some e))):=by
 rw[as_rls];simp only[Sem.run_bind,as_parts25a,as_parts25,Result.andThen]
 simp[ReflectliteValue.flagAddr,loadVar,isAgg,underlying,Tryz.underlying70,hb,Result.andThen,as_direct25,storeVar,Value.cells,storeCells,Addr.add]
 rw[run_store Tryz.prog W ta _ _ (by rfl)]
 simp[ht,hf]
theorem as_hit (e t:Addr) (old:Value) (w:World) (hg:w.cell? ⟨0,0,none⟩=some (.iface 144 (.agg #[.pointer (some ⟨4,37,none⟩)]))) (ht0:w.cell? t=some old) (hf0:w.frozen? t=false):
 Calls Tryz.prog 30 #[.iface 70 (.pointer (some e)),.iface 72 (.pointer (some t))] w fun ev w'=>ev=.returned (.bool true)∧w'=((((w.alloc (.cells #[.pointer (some t)] 72)).alloc (.cells #[.pointer (some ⟨4,72,none⟩),.pointer (some ⟨w.heap.size,0,none⟩),.int .u64 150] 100)).alloc (.cells #[.pointer (some ⟨4,72,none⟩),.pointer (some ⟨w.heap.size,0,none⟩),.int .u64 150] 100)).alloc (.cells #[.pointer (some e)] 70)).setCell t (.pointer (some e)):=by
 have h6:=@run_callFunc_extern Tryz.prog 46 _ (fun args=>ReflectliteValue.unpack (args.getD 0 (.tuple #[]))) Tryz.func46 (by kernel_rfl) (by kernel_rfl) (by kernel_rfl) (by kernel_rfl)
 have h7 := @run_callFunc_extern Tryz.prog 47 _ (ReflectliteValue.methodAny (ReflectliteValue.valueError "reflectlite.Value.Type" 0) (fun t _ _ _ => ReflectliteType.toType t)) Tryz.func47 (by kernel_rfl) (by kernel_rfl) (by kernel_rfl) (by kernel_rfl)
 have h8 := @run_callFunc_extern Tryz.prog 48 _ (ReflectliteValue.method (ReflectliteValue.valueError "reflectlite.Value.IsNil" 0) ReflectliteValue.isNil) Tryz.func48 (by kernel_rfl) (by kernel_rfl) (by kernel_rfl) (by kernel_rfl)
 have h27:=@run_callFunc_extern Tryz.prog 156 _ (ReflectliteType.abiMethod fun t=>do pure (.int .u8 (←Rtype.kind t))) Tryz.func156 (by kernel_rfl) (by kernel_rfl) (by kernel_rfl) (by kernel_rfl)
 have h37:=@run_callFunc_extern Tryz.prog 170 _ (ReflectliteType.method ReflectliteType.elem) Tryz.func170 (by kernel_rfl) (by kernel_rfl) (by kernel_rfl) (by kernel_rfl)
 have h38 := @run_callFunc_extern Tryz.prog 171 _ (ReflectliteType.relation "Implements" ReflectliteType.implements_) Tryz.func171 (by kernel_rfl) (by kernel_rfl) (by kernel_rfl) (by kernel_rfl)
 have h10:=@run_callFunc_extern Tryz.prog 72 _ ReflectliteType.typeOf Tryz.func72 (by kernel_rfl) (by kernel_rfl) (by kernel_rfl) (by kernel_rfl)
 have h35 := @run_callFunc_extern Tryz.prog 168 _ (ReflectliteType.relation "AssignableTo" ReflectliteType.assignableTo) Tryz.func168 (by kernel_rfl) (by kernel_rfl) (by kernel_rfl) (by kernel_rfl)
 have h11 := @run_callFunc_extern Tryz.prog 73 _ (ReflectliteValue.method (ReflectliteValue.valueError "reflectlite.Value.Elem" 0) ReflectliteValue.elem) Tryz.func73 (by kernel_rfl) (by kernel_rfl) (by kernel_rfl) (by kernel_rfl)
 have h12:=@run_callFunc_extern Tryz.prog 74 _ ReflectliteValue.set Tryz.func74 (by kernel_rfl) (by kernel_rfl) (by kernel_rfl) (by kernel_rfl)
 have tO:=as_typeOf25;have mA:=as_methodAssignableTo;have a25:=as_assignable25;have v25:=as_valueOf25;have f6:=as_valueOf27;have f7:=as_type27;have mK:=as_methodKind;have mE:=as_methodElem;have mI:=as_methodImplements;have k27:=as_kind27;have k25:=as_kind25;have e27:=as_elem27;have i25:=as_implements25
 have n8:=as_isNil27 ⟨w.heap.size,0,none⟩ t ((w.alloc (.cells #[.pointer (some t)] 72)).alloc (.cells #[.pointer (some ⟨4,72,none⟩),.pointer (some ⟨w.heap.size,0,none⟩),.int .u64 150] 100)) (by simp)
 have hlt:0<w.heap.size:=by
  rcases Nat.lt_or_ge 0 w.heap.size with h|h
  ·exact h
  ·simp[World.cell?,Array.getElem?_eq_none h] at hg
 have hg2:((w.alloc (.cells #[.pointer (some t)] 72)).alloc (.cells #[.pointer (some ⟨4,72,none⟩),.pointer (some ⟨w.heap.size,0,none⟩),.int .u64 150] 100)).cell? ⟨0,0,none⟩=some (.iface 144 (.agg #[.pointer (some ⟨4,37,none⟩)])):=by
  rw[World.cell?_alloc_lt _ _ ⟨0,0,none⟩ (by simp<;>omega),World.cell?_alloc_lt _ _ ⟨0,0,none⟩ hlt];exact hg
 have htl:t.block<w.heap.size:=by
  rcases Nat.lt_or_ge t.block w.heap.size with h|h
  ·exact h
  ·simp[World.cell?,Array.getElem?_eq_none h] at ht0
 have el:=as_elemV27 ⟨w.heap.size,0,none⟩ t (((w.alloc (.cells #[.pointer (some t)] 72)).alloc (.cells #[.pointer (some ⟨4,72,none⟩),.pointer (some ⟨w.heap.size,0,none⟩),.int .u64 150] 100)).alloc (.cells #[.pointer (some ⟨4,72,none⟩),.pointer (some ⟨w.heap.size,0,none⟩),.int .u64 150] 100)) (by rw[World.cell?_alloc_lt _ _ ⟨w.heap.size,0,none⟩ (by simp;omega)];simp)
 have st:=as_set25 t ⟨w.heap.size+1+1+1,0,none⟩ e old ((((w.alloc (.cells #[.pointer (some t)] 72)).alloc (.cells #[.pointer (some ⟨4,72,none⟩),.pointer (some ⟨w.heap.size,0,none⟩),.int .u64 150] 100)).alloc (.cells #[.pointer (some ⟨4,72,none⟩),.pointer (some ⟨w.heap.size,0,none⟩),.int .u64 150] 100)).alloc (.cells #[.pointer (some e)] 70))
  (by rw[World.cell?_alloc_at _ _ _ _ (by simp)];rfl)
  (by rw[World.cell?_alloc_lt _ _ t (by simp;omega),World.cell?_alloc_lt _ _ t (by simp;omega),World.cell?_alloc_lt _ _ t (by simp;omega),World.cell?_alloc_lt _ _ t htl];exact ht0)
  (by rw[World.frozen?_alloc_old _ _ t (by simp;omega),World.frozen?_alloc_old _ _ t (by simp;omega),World.frozen?_alloc_old _ _ t (by simp;omega),World.frozen?_alloc_old _ _ t (Nat.ne_of_lt htl)];exact hf0)
 go_enter Tryz.func30,Tryz.ntmps30
 go_wp2
 refine wp_loop_rounds 1 ?_;rw[rounds_succ]
 go_wp2
 go_ret;exact⟨rfl,rfl⟩
def Ety (w:World):Prop:=w.cell? ⟨0,0,none⟩=some (.iface 144 (.agg #[.pointer (some ⟨4,37,none⟩)]))
end Go.Proofs.YtmmlkfkpblokiaaGreatDoor
namespace Go.Proofs.YtmmlkfkpblokiaaGreatDoor
open Go Go.RowKit Go.Sort
attribute [local go_sem] setCell_drewN alloc_drewN
def k8 (l:List Int):List Value:=l.map (Value.int .u8)
theorem eqf_cons {P : Program} {W : World} {d : Nat} {xs ys : Array Value} {f : Field} {fs : List Field} {a b : Value} {r : Bool} (hn : f.name ≠ "_") (ha : (part f.type xs f.offset).run P W = .ok a W) (hb : (part f.type ys f.offset).run P W = .ok b W) (he : (Op.equalIn d f.type a b).run P W = .ok r W) :
 (Op.eqFields d xs ys (f::fs)).run P W=if r=true then(Op.eqFields d xs ys fs).run P W else .ok false W:=by
 rw[Op.eqFields,if_pos hn,Sem.run_bind,ha,Result.andThen_ok,Sem.run_bind,hb,Result.andThen_ok,Sem.run_bind,he,Result.andThen_ok]
 cases r<;>simp
theorem eqf_nil {P:Program} {W:World} {d:Nat} {xs ys:Array Value}:(Op.eqFields d xs ys []).run P W=.ok true W:=by
 rw[Op.eqFields,Sem.run_pure]
theorem wpList_build_want {P:Program} {ops:Array Oper} {rest:List Oper} {o:Oper} {a:Act} {w:World} {Q:Exit→Act→World→Prop} (hw:Region.wanted o (yielded ops a.tmps)=true) (t:TypeId) (parts:Array (Nat×Operand)) (ho:o.op=.build t parts)
 (vals:List (Nat×Value)) (hv:parts.toList.map (fun(i,x)=>(i,a.eval x))=vals) (cells:Array Value) (hb:P.built t vals=some cells)
 (h:wpList P ops Q rest (a.put o.dst (.agg cells)) w):wpList P ops Q (o::rest) a w:=by
 rw[←Array.toList_map] at hv;subst hv
 refine BigFrame.wpList_want hw fun _ hK=>?_
 unfold Oper.wp execOp;simp only[ho,Sem.run_bind,run_build w t _ cells hb,Result.andThen_ok];exact hK _ _ h
end Go.Proofs.YtmmlkfkpblokiaaGreatDoor
namespace Go.Proofs.YtmmlkfkpblokiaaGreatDoor
open Go Go.RowKit Go.Sort Go.ChangeShapes Go.WideShapes Go.Deep
end Go.Proofs.YtmmlkfkpblokiaaGreatDoor
namespace Go.Proofs.YtmmlkfkpblokiaaGreatDoor
open Go Go.RowKit Go.Sort
attribute [local go_sem] setCell_drewN alloc_drewN
section
variable {P : Program}
theorem run_load_part {o:Oper} {a:Act} {w:World} (ty:TypeId) (x:Operand) (ho:o.op=.load ty x) (g off:Nat) (hx:a.eval x=.pointer (some ⟨g,off,none⟩)) (t:TypeId) (cs:Array Value) (fr:Nat×Nat) (part:Array Value) (d:TypeDesc) (hg:w.heap[g]? =some (.cells cs t fr)) (hp:cs.extract off (off+part.size)=part)
 (hu:P.underlying ty=some d) (hd:d.isRow=true) (hi:(P.info? ty).map (·.size)=some part.size):(execOp a.eval o).run P w=.ok (.value (.agg part)) w:=by
 have hr:=World.rangeAt_of_block hg off part.size;rw[hp] at hr
 have hl:=run_loadVar_mid (P:=P) w g off ty part.toList d hr hu hd (by simpa using hi)
 unfold execOp;simp only[ho,hx,Instr.loadAt,Instr.sureAddr,Sem.run_bind,Sem.run_pure,Result.andThen_ok,hl]
end
section
variable {P : Program} {ops : Array Oper} {Q : Exit → Act → World → Prop} {md : Region.Mode} {S : World → Prop}
end
theorem all_rowB (cs:Array Value):cs.extract 0 (0+cs.size)=cs:=by simp
theorem run_eql_op {P:Program} {o:Oper} {a:Act} {w:World} (t u:TypeId) (x y:Operand) (ho:o.op=.binOp .eql t x y u) (X Y:Array Value) (hx:a.eval x=.agg X) (hy:a.eval y=.agg Y) (hg:P.eqGuardType P.depth t=false) (B:Bool) (he:(Op.equalIn 10000 t (.agg X) (.agg Y)).run P w=.ok B w):(execOp a.eval o).run P w=.ok (.value (.bool B)) w:=by
 unfold execOp;simp only[ho,hx,hy,Sem.run_bind,Sem.run_pure,Result.andThen_ok,run_eqGuard_agg w .eql t x y X Y hg,run_eql_struct,he]
theorem fldFt : ∃ f0 f1 f2, (Tryz.prog.fieldsOf 41).toList = [f0, f1, f2] ∧ f0.name ≠ "_" ∧ f0.type = 3 ∧ f0.offset = 0 ∧ f1.name ≠ "_" ∧ f1.type = 3 ∧ f1.offset = 1 ∧ f2.name ≠ "_" ∧ f2.type = 39 ∧ f2.offset = 2 := ⟨_, _, _, rfl, by decide, rfl, rfl, by decide, rfl, rfl, by decide, rfl, rfl⟩
theorem strFt:Tryz.prog.underlying 41=some (.struct (Tryz.prog.fieldsOf 41)):=by kernel_rfl
theorem stoFt:Tryz.prog.stoodInHeld 41=false:=by kernel_rfl
theorem part_iF {cs:Array Value} {n:Int} {o:Nat} (h:cs[o]? =some (.int .i64 n)) (W:World):(part 3 cs o).run Tryz.prog W=.ok (.int .i64 n) W:=by
 have ha:(isAgg 3).run Tryz.prog W=.ok false W:=by
  unfold isAgg;rw[Sem.run_bind,run_underlying Tryz.underlying3 W];rfl
 simp[part,Sem.run_bind,ha,h]
theorem part_nF {cs:Array Value} {n:Int} {o:Nat} (h:cs[o]? =some (.int .i64 n)) (W:World):(part 39 cs o).run Tryz.prog W=.ok (.int .i64 n) W:=by
 have ha:(isAgg 39).run Tryz.prog W=.ok false W:=by
  unfold isAgg;rw[Sem.run_bind,run_underlying Tryz.underlying39 W];rfl
 simp[part,Sem.run_bind,ha,h]
theorem eq_ftr (x:Flt3) (W:World):(Op.equalIn 10000 41 (.agg (frw x)) (.agg (frw x))).run Tryz.prog W=.ok true W:=by
 unfold frw;obtain⟨f0,f1,f2,hf,n0,t0,o0,n1,t1,o1,n2,t2,o2⟩:=fldFt;rw[run_equalIn_struct W 9999 41 _ _ strFt stoFt,hf]
 have i0:=fun p q=>run_equalIn_int W (P:=Tryz.prog) 9998 3 .i64 .i64 p q Tryz.underlying3
 have i1:=fun p q=>run_equalIn_int W (P:=Tryz.prog) 9998 39 .i64 .i64 p q Tryz.underlying39
 rw[eqf_cons n0 (by rw[t0,o0];exact part_iF rfl W) (by rw[t0,o0];exact part_iF rfl W) (by rw[t0];exact i0 x.line x.line),eqf_cons n1 (by rw[t1,o1];exact part_iF rfl W) (by rw[t1,o1];exact part_iF rfl W) (by rw[t1];exact i0 x.at_ x.at_),eqf_cons n2 (by rw[t2,o2];exact part_nF rfl W) (by rw[t2,o2];exact part_nF rfl W) (by rw[t2];exact i1 x.why x.why),eqf_nil]
 simp
theorem Ety.keep {w w':World} {n:Nat} (h:Ety w) (hb:Below n w w') (hn:n=w.heap.size):Ety w':=by
 subst hn
 unfold Ety at *
 have hl:0<w.heap.size:=by
  rcases Nat.lt_or_ge 0 w.heap.size with q|q
  ·exact q
  ·simp[World.cell?,Array.getElem?_eq_none q] at h
 rw[World.cell?_of_block (hb.block _ hl)];exact h
theorem bFt (cs:Array Value) (W:World):(Instr.box 41 (.agg cs)).run Tryz.prog W=.ok (.pointer (some ⟨W.heap.size,0,none⟩)) (W.alloc (.cells cs 41)):=by kernel_rfl
theorem eql_nilE (W:World):(binOp .eql 37 .nilIface .nilIface).run Tryz.prog W=.ok (.bool true) W:=by kernel_rfl
theorem as_fault (g k:Nat) (w:World) (hE:Ety w) (hk:w.heap[k]? =some (.cells #[.pointer none] 70 (0,0))):Calls Tryz.prog 30 #[.iface 70 (.pointer (some ⟨g,0,none⟩)),.iface 72 (.pointer (some ⟨k,0,none⟩))] w fun e w'=>e=.returned (.bool true)∧w'.heap[k]? =some (.cells #[.pointer (some ⟨g,0,none⟩)] 70 (0,0))∧But k w w':=by
 have hl:=lt_of_row hk
 refine(as_hit ⟨g,0,none⟩ ⟨k,0,none⟩ (.pointer none) w hE (by rw[cell_of_row _ _ _ _ _ _ hk];rfl) (row_frozen hk 0)).mono ?_
 rintro e w' ⟨rfl,rfl⟩
 have hb:Below w.heap.size w ((((w.alloc (.cells #[.pointer (some ⟨k,0,none⟩)] 72)).alloc (.cells #[.pointer (some ⟨4,72,none⟩),.pointer (some ⟨w.heap.size,0,none⟩),.int .u64 150] 100)).alloc (.cells #[.pointer (some ⟨4,72,none⟩),.pointer (some ⟨w.heap.size,0,none⟩),.int .u64 150] 100)).alloc (.cells #[.pointer (some ⟨g,0,none⟩)] 70)):=((((Below.refl _ _).alloc (Nat.le_refl _) _).alloc (by simp) _).alloc (by simp;omega) _).alloc (by simp;omega) _
 generalize (((w.alloc (.cells #[.pointer (some ⟨k,0,none⟩)] 72)).alloc (.cells #[.pointer (some ⟨4,72,none⟩),.pointer (some ⟨w.heap.size,0,none⟩),.int .u64 150] 100)).alloc (.cells #[.pointer (some ⟨4,72,none⟩),.pointer (some ⟨w.heap.size,0,none⟩),.int .u64 150] 100)).alloc (.cells #[.pointer (some ⟨g,0,none⟩)] 70)=w4 at *
 exact⟨rfl,row_set (keep hb hk) 0 _,(But.of hb).trans (But.set w4 _)⟩
theorem infoFrw (x:Flt3):(Tryz.prog.info? 41).map (·.size)=some (frw x).size:=by
 rw[show(frw x).size=3 from rfl]
 kernel_rfl
theorem r_CheckT {g:Nat} {ts:List Slt} (hv:vld ts=0) (S:Nat→Prop) (x:VR) (X:VT) (w:World) (hC:Rdc w g ts) (hX:VtM w S x X):
 Calls Tryz.prog 13 #[.pointer (some ⟨g,0,none⟩),.agg (vrv x)] w fun e w'=>e=.returned (.agg (flr (ckT utD flD ts X 1)))∧Below w.heap.size w w':=by
 obtain⟨u,hg,hS⟩:=hC;obtain⟨so,sc,rfl⟩:=hS.form;have ok:=vld_ok hv
 have cC:=hide (fun V (hV:Below w.heap.size w V)=>r_checkA (htT ts).toNat ts (Int.self_le_toNat _) ok.2.2.1 S _ x X 1 V (by decide) ok.2.2.2.2 (hS.keep hV) (hX.blw hV))
 clear ok;obtain⟨a,b,c,hE⟩:=flr_form (ckT utD flD ts X 1);rw[hE] at cC;replace hE:=hide hE;obtain⟨n,da,dl,dc,pa,pl,pc⟩:=x
 unfold vrv vrw at cC⊢
 generalize ts.length=sn at *
 have hlg:=lt_of_row hg
 have hb:Below w.heap.size w ((w.alloc (.cells #[.int .u64 (n:Int),.slice da dl dc,.slice pa pl pc] 27)).alloc (.cells #[.int .i64 0,.int .i64 0,.int .i64 0] 41)):=((Below.refl _ _).alloc (Nat.le_refl _) _).alloc (by simp) _
 have rV:=hp2_0 w (.cells #[.int .u64 (n:Int),.slice da dl dc,.slice pa pl pc] 27) (.cells #[.int .i64 0,.int .i64 0,.int .i64 0] 41);have rF:=hp2_1 w (.cells #[.int .u64 (n:Int),.slice da dl dc,.slice pa pl pc] 27) (.cells #[.int .i64 0,.int .i64 0,.int .i64 0] 41);have rg:=keep hb hg;have hbv:=bVal #[.int .u64 (n:Int),.slice da dl dc,.slice pa pl pc];clear hS hX hg
 go_enter Tryz.func13,Tryz.ntmps13
 go_wp2_with (fail)
 have hS0:(fun W:World=>Bx W w.heap.size #[.int .u64 (n:Int),.slice da dl dc,.slice pa pl pc]∧Bx W g #[.slice so sn sc]) ((w.alloc (.cells #[.int .u64 (n:Int),.slice da dl dc,.slice pa pl pc] 27)).alloc (.cells #[.int .i64 0,.int .i64 0,.int .i64 0] 41)):=⟨⟨_,rV⟩,⟨_,rg⟩⟩
 refine wp_region_held (S:=fun W:World=>Bx W w.heap.size #[.int .u64 (n:Int),.slice da dl dc,.slice pa pl pc]∧Bx W g #[.slice so sn sc]) (by kernel_rfl) ?_
 change wpAnyH _ _ _ _ _ _ _ _ (World.drew _)
 generalize ((w.alloc (.cells #[.int .u64 (n:Int),.slice da dl dc,.slice pa pl pc] 27)).alloc (.cells #[.int .i64 0,.int .i64 0,.int .i64 0] 41))=w1 at *
 have hbd:Below w1.heap.size w1 w1.drew:=below_drN (Below.refl _ _) 1
 replace hS0:(fun W:World=>Bx W w.heap.size #[.int .u64 (n:Int),.slice da dl dc,.slice pa pl pc]∧Bx W g #[.slice so sn sc]) w1.drew:=hS0
 replace hb:=Below.after hb hbd;replace rF:=keep hbd rF;have cX0:=cC.out w1.drew hb;clear cC rV rg hbd
 generalize w1.drew=w2 at *
 refine wTy 0 ?v1 rfl ?y1 hS0 ?r1
 case y1=>
  intro w_ hS_;go_simp
  try with_reducible rfl
 simp only[Act.put,ZPa,ZPc,ZPd,ZPe,ZPf];refine wTy 1 ?v2 rfl ?y2 hS0 ?r2
 case y2=>
  intro w_ hS_;go_simp
  try with_reducible rfl
 simp only[Act.put,ZPa,ZPb,ZPc,ZPd,ZPe,ZPf];refine wTy 2 ?v3 rfl ?y3 hS0 ?r3
 case y3=>
  intro w_ hS_;go_simp
  try with_reducible rfl
 simp only[Act.put,ZPa,ZPb,ZPc,ZPd,ZPe,ZPf];refine wTy 3 (.slice so sn sc) rfl ?y4 hS0 ?r4
 case y4=>
  intro w_ hS_;obtain⟨_,h_⟩:=hS_.2;have c_:=cell_of_row _ _ 0 _ _ _ h_;go_simp
  try with_reducible rfl
 simp only[Act.put,ZPa,ZPb,ZPc,ZPd,ZPe,ZPf]
 refine wTk (i:=4) (v:=.agg #[.int .u64 (n:Int),.slice da dl dc,.slice pa pl pc]) rfl (yieldsIf_load_mid (by rfl) 27 _ rfl w.heap.size 0 rfl [.int .u64 (n:Int),.slice da dl dc,.slice pa pl pc] _ (fun _ h=>range_row h.1) Tryz.underlying27 rfl infoV) hS0 ?_
 simp only[Act.put,ZPa,ZPb,ZPc,ZPd,ZPe,ZPf]
 have cX:=cX0.mono (fun e w' h=>(⟨_,h.1,rfl,h.2⟩:∃v,e=.returned v∧v=.agg #[.int .i64 a,.int .i64 b,.int .i64 c]∧Below w2.heap.size w2 w'))
 clear cX0
 refine wpAnyH_one (k:=5) (fuel:=1) (by kernel_rfl) rfl (by kernel_rfl) (fun K_ hK=>?_)
 refine wp_call_ex (R:=fun v w'=>v=.agg #[.int .i64 a,.int .i64 b,.int .i64 c]∧Below w2.heap.size w2 w') (by kernel_rfl) cX (fun v_ w3 hX_=>?_)
 obtain⟨rfl,hbx⟩:=hX_
 replace hS0:(fun W:World=>Bx W w.heap.size #[.int .u64 (n:Int),.slice da dl dc,.slice pa pl pc]∧Bx W g #[.slice so sn sc]) w3:=⟨hS0.1.keep hbx,hS0.2.keep hbx⟩
 replace hb:=Below.after hb hbx;replace rF:=keep hbx rF;refine hK _ _ hS0 ?_;simp only[Act.put,ZPa,ZPb,ZPc,ZPd,ZPe,ZPf];clear hK cX hbx
 have hone:(#[.int .i64 a,.int .i64 b,.int .i64 c]:Array Value).all (·.oneCell')=true:=by simp[Value.oneCell']
 refine wpAnyH_one (k:=6) (fuel:=0) (by kernel_rfl) rfl (by kernel_rfl) (fun K_ hK=>?_)
 refine wp_store_row 41 _ _ rfl (w.heap.size+1) #[.int .i64 a,.int .i64 b,.int .i64 c] rfl rfl 41 _ rF infoFt rfl hone ?_;have r6:=setRow_heap w3 (w.heap.size+1) _ #[.int .i64 a,.int .i64 b,.int .i64 c] _ _ rF
 have hb6:=below_setRow (g:=w.heap.size+1) hb (by omega) #[.int .i64 a,.int .i64 b,.int .i64 c]
 refine hK _ _ ⟨hS0.1.row (by omega),hS0.2.row (by omega)⟩ ?_
 simp only[Act.put,ZPa,ZPb,ZPc];clear hK hS0 hb rF
 refine wpAnyH_done (by kernel_rfl) ?_ _
 go_wp2_with (fail)
 exact bodyPost_ret (v:=.agg #[.int .i64 a,.int .i64 b,.int .i64 c]) (results_cell_row Tryz.results13 _ _ (w.heap.size+1) _ _ _ _ rfl r6 Tryz.underlying41 rfl infoFt) rfl ⟨by rw[hE.out],hb6⟩
theorem l_faulty8_nil (a b:Int) (w:World):Calls Tryz.prog 11 #[.nilIface,.agg #[.int .i64 a,.int .i64 b,.int .i64 0]] w fun e w'=>e=.returned (.bool true)∧Below w.heap.size w w':=by
 have h1:=eql_nilE;have hw:Below w.heap.size w (w.alloc (.cells #[.int .i64 a,.int .i64 b,.int .i64 0] 41)):=(Below.refl _ _).alloc (Nat.le_refl _) _;replace hw:=hide hw
 go_enter Tryz.func11,Tryz.ntmps11
 go_wp2
 go_ret;exact⟨rfl,hw.out⟩
theorem l_faulty8_hit (x:Flt3) (hx:x.why≠0) (g:Nat) (w:World) (hE:Ety w) (hg:w.heap[g]? =some (.cells (frw x) 41 (0,0))):Calls Tryz.prog 11 #[.iface 70 (.pointer (some ⟨g,0,none⟩)),.agg (frw x)] w fun e w'=>e=.returned (.bool true)∧Below w.heap.size w w':=by
 have hgl:=lt_of_row hg;have R0:=hp2_0 w (.cells (frw x) 41) (.cells #[.pointer none] 70);have R1:=hp2_1 w (.cells (frw x) 41) (.cells #[.pointer none] 70)
 have hw:Below w.heap.size w ((w.alloc (.cells (frw x) 41)).alloc (.cells #[.pointer none] 70)):=((Below.refl _ _).alloc (Nat.le_refl _) _).alloc (by simp) _
 replace hg:=keep hw hg;replace hE:=hE.keep hw rfl
 have bE:(x.why==0)=false:=by simpa using hx
 have cW:(w.alloc (.cells (frw x) 41)).cell? ⟨w.heap.size,2,none⟩=some (.int .i64 x.why):=by rw[cell_of_row _ _ _ _ _ _ (hp1_0 w (.cells (frw x) 41))];rfl
 replace hx:=hide hx
 go_enter Tryz.func11,Tryz.ntmps11
 go_upto_region 4 with(first|(refine wpList_box rfl 41 _ rfl _ rfl (bFt _) ?_)|fail)
 try simp only[size_alloc1,Act.put,List.setIfInBounds_toArray,List.set_cons_succ,List.set_cons_zero]
 generalize ((w.alloc (.cells (frw x) 41)).alloc (.cells #[.pointer none] 70))=w1 at *
 have hbd:Below w1.heap.size w1 w1.drew:=below_drN (Below.refl _ _) 1;replace R0:=keep hbd R0;replace R1:=keep hbd R1;replace hg:=keep hbd hg;replace hE:=hE.keep hbd rfl;replace hw:=Below.after hw hbd
 have HS:(fun W:World=>W.heap[w.heap.size]? =some (.cells (frw x) 41 (0,0))∧W.heap[g]? =some (.cells (frw x) 41 (0,0))) w1.drew:=⟨R0,hg⟩
 clear hbd R0 hg cW;refine wp_region_noPanic ?_
 refine wp_region_held (S:=fun W:World=>W.heap[w.heap.size]? =some (.cells (frw x) 41 (0,0))∧W.heap[g]? =some (.cells (frw x) 41 (0,0))) (by kernel_rfl) ?_
 change wpAnyH _ _ _ _ _ _ _ _ (World.drew _)
 generalize w1.drew=w2 at *
 refine wTy 0 ?v1 rfl ?y1 HS ?r1
 case y1=>
  intro w_ hS_;go_simp
  try with_reducible rfl
 simp only[Act.put,ZPa,ZPc,ZPd,ZPe,ZPf]
 refine wpAnyH_take (i:=1) (v:=.iface 72 (.pointer (some ⟨w.heap.size+1,0,none⟩))) rfl (by kernel_rfl) (by kernel_rfl) (by kernel_rfl) (fun _ _ _ h=>h) (Or.inl ⟨by rfl,?y2⟩) HS ?r2
 case y2=>
  intro w_ hS_;go_simp
  try with_reducible rfl
 simp only[Act.put,ZPa,ZPb,ZPc,ZPd,ZPe,ZPf]
 refine wpAnyH_one (k:=2) (fuel:=12) (by kernel_rfl) rfl (by rfl) (fun K_ hK=>?_)
 refine wp_call_ex (f:=30) (R:=fun v w'=>v=.bool true∧w'.heap[w.heap.size+1]? =some (.cells #[.pointer (some ⟨g,0,none⟩)] 70 (0,0))∧But (w.heap.size+1) w2 w') (by kernel_rfl) ((as_fault g (w.heap.size+1) w2 hE R1).mono (fun e w' h=>(by obtain⟨e1,e2⟩:=h;exact⟨_,e1,rfl,e2⟩:∃v,e=.returned v∧v=.bool true∧w'.heap[w.heap.size+1]? =some (.cells #[.pointer (some ⟨g,0,none⟩)] 70 (0,0))∧But (w.heap.size+1) w2 w'))) (fun v_ w3 hX_=>?_)
 obtain⟨rfl,R1',hbu⟩:=hX_
 have HS':(fun W:World=>W.heap[w.heap.size]? =some (.cells (frw x) 41 (0,0))∧W.heap[g]? =some (.cells (frw x) 41 (0,0))) w3:=⟨hbu.row HS.1 (by omega),hbu.row HS.2 (by omega)⟩
 replace hw:=But.after hw (by omega) hbu
 have cF:w3.cell? ⟨w.heap.size+1,0,none⟩=some (.pointer (some ⟨g,0,none⟩)):=by rw[cell_of_row _ _ _ _ _ _ R1'];rfl
 clear hbu R1 hE HS;have HS:=HS';clear HS';refine hK _ _ HS ?_;simp only[Act.put,ZPa,ZPb,ZPc,ZPd,ZPe,ZPf];clear hK;refine wTy 3 ?v3 rfl ?y3 HS ?r3
 case y3=>
  intro w_ hS_;go_simp
  try with_reducible rfl
 simp only[Act.put,ZPa,ZPb,ZPc,ZPd,ZPe,ZPf]
 refine wpAnyH_one (k:=4) (fuel:=10) (by kernel_rfl) rfl (by rfl) (fun K_ hK=>?_)
 refine wp_val_op (.pointer (some ⟨g,0,none⟩)) (w':=w3) (by go_simp;try with_reducible rfl) ?_
 refine hK _ _ HS ?_;simp only[Act.put,ZPa,ZPb,ZPc,ZPd,ZPe,ZPf];clear hK;refine wTy 5 ?v4 rfl ?y4 HS ?r4
 case y4=>
  intro w_ hS_;go_simp
  try with_reducible rfl
 simp only[Act.put,ZPa,ZPb,ZPc,ZPd,ZPe,ZPf];refine wTy 6 ?v5 rfl ?y5 HS ?r5
 case y5=>
  intro w_ hS_;go_simp
  try with_reducible rfl
 simp only[Act.put,ZPa,ZPb,ZPc,ZPd,ZPe,ZPf];refine wTy 7 ?v6 rfl ?y6 HS ?r6
 case y6=>
  intro w_ hS_;go_simp
  try with_reducible rfl
 simp only[Act.put,ZPa,ZPb,ZPc,ZPd,ZPe,ZPf];refine wTy 11 (.agg (frw x)) rfl ?y7 HS ?r7
 case y7=>
  intro w_ hS_;simp only[List.getElem_toArray,List.getElem_cons_succ,List.getElem_cons_zero]
  exact run_load_part 41 _ (by rfl) (w.heap.size) 0 (by rfl) 41 (frw x) (0,0) (frw x) _ (hS_.1) (all_rowB _) Tryz.underlying41 rfl (infoFrw x)
 simp only[Act.put,ZPa,ZPb,ZPc,ZPd,ZPe,ZPf]
 refine wpAnyH_one (k:=8) (fuel:=5) (by kernel_rfl) rfl (by rfl) (fun K_ hK=>?_)
 refine wp_val_op (.pointer (some ⟨g,0,none⟩)) (w':=w3) (by go_simp;try with_reducible rfl) ?_
 refine hK _ _ HS ?_;simp only[Act.put,ZPa,ZPb,ZPc,ZPd,ZPe,ZPf];clear hK;refine wTy 9 ?v8 rfl ?y8 HS ?r8
 case y8=>
  intro w_ hS_;go_simp
  try with_reducible rfl
 simp only[Act.put,ZPa,ZPb,ZPc,ZPd,ZPe,ZPf];refine wTy 10 (.agg (frw x)) rfl ?y9 HS ?r9
 case y9=>
  intro w_ hS_;simp only[List.getElem_toArray,List.getElem_cons_succ,List.getElem_cons_zero]
  exact run_load_part 41 _ (by rfl) (g) 0 (by rfl) 41 (frw x) (0,0) (frw x) _ (hS_.2) (all_rowB _) Tryz.underlying41 rfl (infoFrw x)
 simp only[Act.put,ZPa,ZPb,ZPc,ZPd,ZPe,ZPf];refine wTy 12 ((.bool true)) rfl ?y10 HS ?r10
 case y10=>
  intro w_ hS_;simp only[List.getElem_toArray,List.getElem_cons_succ,List.getElem_cons_zero]
  exact run_eql_op 41 41 _ _ (by rfl) (frw x) (frw x) (by rfl) (by rfl) (by kernel_rfl) true (eq_ftr x _)
 simp only[Act.put,ZPa,ZPb,ZPc,ZPd,ZPe,ZPf];refine wTy 13 ?v11 rfl ?y11 HS ?r11
 case y11=>
  intro w_ hS_;go_simp
  try with_reducible rfl
 simp only[Act.put,ZPa,ZPb,ZPc,ZPd,ZPe,ZPf];refine wTy 14 ?v12 rfl ?y12 HS ?r12
 case y12=>
  intro w_ hS_;go_simp
  try with_reducible rfl
 simp only[Act.put,ZPa,ZPb,ZPc,ZPd,ZPe,ZPf]
 refine wpAnyH_done (by kernel_rfl) ?_ _
 refine NoPanic.normal ?_
 go_wp2_with (fail)
 go_ret;exact⟨rfl,hw⟩
theorem l_left {W:World} {S:Nat→Prop} {v':Value} {ts:List Slt} (hh:HSl W S v' ts):∀(v:Value),Slo W v ts→∀(w:World),Below W.heap.size W w→Calls Tryz.prog 28 #[v',v] w fun e w'=>e=.returned (.bool true)∧Below w.heap.size w w':=by
 induction hh with
 |mk G ts us hl hG hS hr hm hhs ih=>
  intro v hv w hw
  cases hv with
  |mk ao cap _ us' hl' hc' hn' h hs=>
   have hsl:0≤(ts.length:Int)+3∧(ts.length:Int)+3≤(ts.length:Int)+3:=by omega
   go_enter Tryz.func28,Tryz.ntmps28
   go_wp2_with (fail)
   go_loopw [6] (fun i wr=>∃k:Nat,k≤ts.length+3∧i=.int .i64 k∧Below w.heap.size w wr) (fun i _=>ts.length+3-(intOf i).toNat)
   case atStart=>exact⟨0,by omega,rfl,Below.refl _ _⟩
   case round=>
    obtain⟨k,hk,rfl,hb⟩:=hrel;have hww:=Below.after hw hb
    by_cases hlt:k<ts.length+3
    ·have hd:decide ((k:Int)<(ts.length:Int)+3)=true:=by simp;omega
     have hk1:0≤(k:Int)∧(k:Int)<(ts.length:Int)+3:=by omega
     by_cases hkn:k<ts.length
     ·have hd2:decide ((k:Int)≥(ts.length:Int))=false:=by simp;omega
      have hk2:0≤(k:Int)∧(k:Int)<(ts.length:Int):=by omega
      obtain⟨b,off,hao,hbl,hra,hok⟩:=h k hkn;have hSl:=hs k hkn;have hih:=ih k hkn _ hSl;have hrk:=(hr k hkn).1;subst hao;obtain⟨ua,uc,hue⟩:=hSl.form;obtain⟨G2,hHe,_⟩:=(hhs k hkn).form
      generalize gs ts k=t at *
      generalize gvs us k=u at *
      generalize gvs us' k=u' at *
      subst hHe hue;have hrk':=rangeS_keep2 hrk hww hG;have hra':=rangeS_keep2 hra hww hbl
      have cI:GivesB wr 28 #[.slice (some ⟨G2,0,none⟩) t.sub.length (t.sub.length+3),.slice ua t.sub.length uc] (.bool true):=fun V hV=>hih V (Below.after hww hV)
      have x0:∀p:Regrown,(grow (redrawn wr p.d) p.os).cell? ⟨G,k*5,none⟩=_:=fun p=>cell_regrown (hrk' 0 _ rfl) p.d p.os
      have y0:∀p:Regrown,(grow (redrawn wr p.d) p.os).cell? ⟨b,off+k*5,none⟩=_:=fun p=>cell_regrown (hra' 0 _ rfl) p.d p.os
      have x1:∀p:Regrown,(grow (redrawn wr p.d) p.os).cell? ⟨G,k*5+1,none⟩=_:=fun p=>cell_regrown (hrk' 1 _ rfl) p.d p.os
      have y1:∀p:Regrown,(grow (redrawn wr p.d) p.os).cell? ⟨b,off+k*5+1,none⟩=_:=fun p=>cell_regrown (hra' 1 _ rfl) p.d p.os
      have x2:∀p:Regrown,(grow (redrawn wr p.d) p.os).cell? ⟨G,k*5+2,none⟩=_:=fun p=>cell_regrown (hrk' 2 _ rfl) p.d p.os
      have y2:∀p:Regrown,(grow (redrawn wr p.d) p.os).cell? ⟨b,off+k*5+2,none⟩=_:=fun p=>cell_regrown (hra' 2 _ rfl) p.d p.os
      have x3:∀p:Regrown,(grow (redrawn wr p.d) p.os).cell? ⟨G,k*5+3,none⟩=_:=fun p=>cell_regrown (hrk' 3 _ rfl) p.d p.os
      have y3:∀p:Regrown,(grow (redrawn wr p.d) p.os).cell? ⟨b,off+k*5+3,none⟩=_:=fun p=>cell_regrown (hra' 3 _ rfl) p.d p.os
      have x4:∀p:Regrown,(grow (redrawn wr p.d) p.os).cell? ⟨G,k*5+4,none⟩=_:=fun p=>cell_regrown (hrk' 4 _ rfl) p.d p.os
      have y4:∀p:Regrown,(grow (redrawn wr p.d) p.os).cell? ⟨b,off+k*5+4,none⟩=_:=fun p=>cell_regrown (hra' 4 _ rfl) p.d p.os
      clear h hs ih hr hm hhs hrk hra hrk' hra' hih hSl hl' hc' hn' hsl
      go_wp2_with (fail)
      refine wp_region_quiet_below (by kernel_rfl) (by kernel_rfl) ?_
      go_big_quiet_step (fail);go_big_quiet_step (fail);go_big_quiet_step (fail);go_big_quiet_step (fail);go_big_quiet_step (fail);go_big_quiet_step (fail);go_big_quiet_step (fail);go_big_quiet_step (fail);go_big_quiet_step (fail);go_big_quiet_step (fail);go_big_quiet_step (fail);go_big_quiet_step (fail);go_big_quiet_step (fail);go_big_quiet_step (fail);go_big_quiet_step (fail);go_big_quiet_step (fail);go_big_quiet_step (fail);go_big_quiet_step (fail);go_big_quiet_step (fail);go_big_quiet_step (fail);go_big_quiet_step (fail);go_big_quiet_step (fail);go_big_quiet_step (fail);go_big_quiet_step (fail);go_big_quiet_step (fail);go_big_quiet_step (fail);go_big_quiet_step (fail);go_big_quiet_step (fail);go_big_quiet_step (fail);go_big_quiet_step (fail);go_big_quiet_step (fail);go_big_quiet_step (fail);go_big_quiet_step (fail);go_big_quiet_step (fail);go_big_quiet_step (fail);go_big_quiet_step (fail);go_big_quiet_step (fail);go_big_quiet_step (fail);go_big_quiet_step (fail);go_big_quiet_step (fail);go_big_quiet_step (fail);go_big_quiet_step (fail);go_big_quiet_step (fail);go_big_quiet_step (fail);go_big_quiet_step (fail);go_big_quiet_step (fail);go_big_quiet_step (fail);go_big_quiet_step (fail);go_big_quiet_step (fail);go_big_quiet_step (fail);go_big_quiet_step (fail);go_big_quiet_step (fail);go_big_quiet_step (fail);go_big_quiet_step (fail);go_big_quiet_step (fail);go_big_quiet_step (fail);go_big_quiet_step (fail);go_big_quiet_step (fail);go_big_quiet_step (fail);go_big_quiet_step (fail);go_big_quiet_step (fail);go_big_quiet_step (exact cI.re);go_big_quiet_step (fail);go_big_quiet_step (fail);refine wpQuiet_nil ?_;rintro _ ⟨p,rfl⟩;have hb2:=below_regrown wr p.d p.os
      generalize grow (redrawn wr p.d) p.os=w1 at *
      replace hb:=Below.after hb hb2;clear hb2 cI x0 x1 x2 x3 x4 y0 y1 y2 y3 y4
      go_wp2_with (fail)
      refine⟨⟨k+1,by omega,by go_num,hb⟩,?_⟩
      simp[intOf];omega
     ·have hd2:decide ((k:Int)≥(ts.length:Int))=true:=by simp;omega
      have hmk:=rangeS_keep2 (hm k (by omega) hlt) hww hG
      have m0:wr.cell? ⟨G,k*5,none⟩=some (.int .i64 (-77)):=hmk 0 _ rfl;have m4:wr.cell? ⟨G,k*5+4,none⟩=some nS:=hmk 4 _ rfl;clear h hs ih hr hm hhs hmk
      go_wp2_with (fail)
      refine⟨⟨k+1,by omega,by go_num,hb⟩,?_⟩
      simp[intOf];omega
    ·have hd:decide ((k:Int)<(ts.length:Int)+3)=false:=by simp;omega
     clear h hs ih hr hm hhs
     go_wp2_with (fail)
     go_ret;exact⟨rfl,hb⟩
def CdS (W:World) (lo g:Nat) (ts:List Slt):Prop:=∃x,RdL W (fun b=>lo≤b) x ts∧W.heap[g]? =some (.cells #[x,.int .i64 ((prS ts).1:Int),.int .i64 ((prS ts).2:Int)] 77 (0,0))
theorem a_CompileS {W:World} {v:Value} {ts:List Slt} (h:Slo W v ts) (w:World) (hw:Below W.heap.size W w):Calls Tryz.prog 26 #[v] w fun e w'=>Below w.heap.size w w'∧((vld ts=0∧∃g,e=.returned (.tuple #[.pointer (some ⟨g,0,none⟩),.int .i64 0])∧w.heap.size≤g∧CdS w' w.heap.size g ts)∨(vld ts≠0∧e=.returned (.tuple #[.pointer none,.int .i64 (vld ts)]))):=by
 have cO:=a_outline h w hw
 have hgd:vld ts=0→gd ts:=fun h0=>by
  refine lft_gd ts 1 256 (by omega) ?_
  unfold vld at h0
  split at h0
  ·cases h0
  ·omega
 obtain⟨ao,cap,rfl⟩:=h.form
 go_enter Tryz.func26,Tryz.ntmps26
 go_wp2_with (fail)
 refine cO.mono ?_;rintro e_ w1 ⟨hb,hres⟩;clear cO
 rcases hres with⟨hv,m,rfl,hm⟩|⟨hv,rfl⟩
 ·have hg:=hgd hv
  have cS:=a_mspan hm.msg hg w1 (Below.refl _ _)
  have cC:=fun V hV=>a_compile hm hg V hV
  have hle:=spL_le ts 0 0 (by omega) (by omega)
  rw[←prS_spL] at hle;obtain⟨hl1,hl2⟩:=hle
  have hcd:∀(V:World) (g:Nat) (x:Value),RdL V (fun b=>w.heap.size≤b) x ts→V.heap[g]? =some (.cells #[x,.int .i64 ((prS ts).1:Int),.int .i64 ((prS ts).2:Int)] 77 (0,0))→CdS V w.heap.size g ts:=fun V g x hr hx=>⟨x,hr,hx⟩
  generalize (prS ts).1=A at *
  generalize (prS ts).2=Bm at *
  have A1:=hide hcd;have A2:=hide hv;obtain⟨mo,mc,rfl⟩:=hm.form;clear hcd hv hgd hg hm
  go_wp2_with (fail)
  refine cS.mono ?_;rintro e_ w2 ⟨rfl,hb2⟩;clear cS
  go_wp2_with (fail)
  refine(cC w2 hb2).mono ?_;rintro e_ w3 ⟨x,rfl,⟨xo,xn,xc,rfl⟩,hb3,hRd⟩;clear cC;have hB:=Below.after (Below.after hb hb2) hb3;have hsw:w.heap.size≤w2.heap.size:=(Below.after hb hb2).size
  have q1:=A1.out (w3.alloc (.cells #[.slice xo xn xc,.int .i64 (A:Int),.int .i64 (Bm:Int)] 77)) w3.heap.size _ (hRd.keep ⟨by rw[size_alloc1];omega,fun b hb hS=>⟨((Below.refl _ _).alloc (Nat.le_refl _) _:Below w3.heap.size w3 (w3.alloc (.cells #[.slice xo xn xc,.int .i64 (A:Int),.int .i64 (Bm:Int)] 77))).block b hb,Nat.le_trans hsw hS⟩⟩) (hp1_0 w3 _)
  have hba:Below w3.heap.size w3 (w3.alloc (.cells #[.slice xo xn xc,.int .i64 (A:Int),.int .i64 (Bm:Int)] 77)):=(Below.refl _ _).alloc (Nat.le_refl _) _;have A3:=hide q1;have A4:=hide (Below.after hB hba);have A5:=hide hB;clear q1 hba hB hb hb2 hb3 A1 hRd
  go_wp2_with (fail)
  go_ret2;exact⟨A4.out,.inl ⟨A2.out,_,rfl,A5.out.size,A3.out⟩⟩
 ·have hv':(vld ts==0)=false:=beq_eq_false_iff_ne.2 hv
  generalize hx:vld ts=x at *
  replace hx:=hide hx
  go_wp2_with (fail)
  go_ret2
  exact⟨hb,.inr ⟨by rw[hx.out];exact hv,by rw[hx.out];rfl⟩⟩
theorem l_made {W:World} {v:Value} {ts:List Slt} (h:Slo W v ts) (hbig:0≤slL ts 10000) (w:World) (hw:Below W.heap.size W w):Calls Tryz.prog 9 #[v] w fun e w'=>Below w.heap.size w w'∧((vld ts=0∧∃gc gr u,e=.returned (.tuple #[.pointer (some ⟨gc,0,none⟩),.pointer (some ⟨gr,0,none⟩),.bool true])∧Cdc w' gc ts∧w'.heap[gr]? =some (.cells #[u] 81 (0,0))∧Slo w' u ts)∨(vld ts≠0∧e=.returned (.tuple #[.pointer none,.pointer none,.bool true]))):=by
 have cH:=l_handx h 10000 (by omega) hbig w hw
 have cR:=fun V hV=>r_Compile h hbig V hV
 have hk:=fun V (hV:Below W.heap.size W V)=>h.keep hV
 obtain⟨ao,cap,rfl⟩:=h.form;clear h
 go_enter Tryz.func9,Tryz.ntmps9
 go_wp2_with (fail)
 refine cH.mono ?_;rintro e_ w1 ⟨v',rfl,hb1,hv'⟩;clear cH;have cC:=a_CompileS hv'.sl.slo w1 (Below.refl _ _);have cL:=l_left hv'.sl _ (hk w1 (Below.after hw hb1));obtain⟨rfl,hlt⟩:=hv'.form;clear hk
 go_wp2_with (fail)
 refine cC.mono ?_;rintro e_ w2 ⟨hb2,hres⟩;clear cC
 rcases hres with⟨h0,gc,rfl,hgc,hcd⟩|⟨h0,rfl⟩
 ·go_wp2_with (fail)
  refine(cR w2 (Below.after (Below.after hw hb1) hb2)).mono ?_
  rintro e_ w3 ⟨hb3,hres⟩;clear cR
  rcases hres with⟨_,gr,u,rfl,hgr,hrg,hu⟩|⟨h1,rfl⟩
  rotate_left
  ·exact absurd h0 h1
  go_wp2_with (fail)
  refine(cL w3 (Below.after hb2 hb3)).mono ?_;rintro e_ w4 ⟨rfl,hb4⟩;clear cL;have h14:=Below.after (Below.after hb2 hb3) hb4
  have cW:=l_wipe hv' w4 (fun b _ h2=>h14.block b h2)
  have B1:=hide hb1;have B2:=hide hb2;have B3:=hide hb3;have B4:=hide hb4;have B5:=hide h14;clear hb1 hb2 hb3 hb4 h14
  go_wp2_with (fail)
  refine cW.mono ?_;rintro e_ w5 ⟨⟨u0,rfl⟩,hO⟩;clear cW;have hb1:=B1.out;have hb2:=B2.out;have hb3:=B3.out;have hb4:=B4.out;have hs1:=hb1.size;have hs2:=hb2.size;have hs3:=hb3.size;have hs4:=hb4.size;have hB4:=Below.after hb1 B5.out
  have hB5:Below w.heap.size w w5:=⟨hO.os.trans hB4.os,hO.tape.trans hB4.tape,hO.output.trans hB4.output,by rw[hO.size];exact hB4.size,fun q hq=>(hO.block q (.inl hq)).trans (hB4.block q hq)⟩
  have hgs:gc<w2.heap.size:=hcd.elim fun x q=>(Array.getElem?_eq_some_iff.1 q.2).1
  have hgr3:gr<w3.heap.size:=(Array.getElem?_eq_some_iff.1 hrg).1
  have c5:Cdc w5 gc ts:=hcd.elim fun x q=>⟨x,q.1.keep ⟨by rw[hO.size];omega,fun b hlt hS=>⟨(hO.block b (.inr hS)).trans ((hb4.block b (by omega)).trans (hb3.block b hlt)),trivial⟩⟩,(hO.block gc (.inr hgc)).trans ((hb4.block gc (by omega)).trans ((hb3.block gc hgs).trans q.2))⟩
  have g5:w5.heap[gr]? =some (.cells #[u] 81 (0,0)):=(hO.block gr (.inr (by omega))).trans ((hb4.block gr hgr3).trans hrg)
  have s5:SlL w5 (fun _=>True) u ts:=hu.keep (by rw[hO.size];omega) fun q h1 h2=>⟨(hO.block q (.inr (by omega))).trans (hb4.block q h1),trivial⟩
  have C1:=hide hB5;have C2:=hide c5;have C3:=hide g5;have C4:=hide s5.slo;clear hB5 c5 g5 s5 hO hb1 hb2 hb3 hb4 B1 B2 B3 B4 B5 hcd hrg hu hv'
  go_wp2_with (fail)
  go_ret3
  exact⟨C1.out,.inl ⟨h0,gc,gr,u,rfl,C2.out,C3.out,C4.out⟩⟩
 ·have cR2:=cR w2 (Below.after (Below.after hw hb1) hb2)
  have hA:=hide h0
  generalize hx:vld ts=x at *
  replace hx:=hide hx;clear h0
  go_wp2_with (fail)
  refine cR2.mono ?_;rintro e_ w3 ⟨hb3,hres⟩;clear cR cR2
  rcases hres with⟨h1,_⟩|⟨h1,rfl⟩
  ·exact absurd h1 hA.out
  have hq:=h1;clear h1
  go_wp2_with (fail)
  refine(cL w3 (Below.after hb2 hb3)).mono ?_;rintro e_ w4 ⟨rfl,hb4⟩;clear cL;have h14:=Below.after (Below.after hb2 hb3) hb4
  have cW:=l_wipe hv' w4 (fun b _ h2=>h14.block b h2)
  have B1:=hide hb1;have B2:=hide hb2;have B3:=hide hb3;have B4:=hide hb4;have B5:=hide h14;clear hb1 hb2 hb3 hb4 h14
  go_wp2_with (fail)
  refine cW.mono ?_;rintro e_ w5 ⟨⟨u0,rfl⟩,hO⟩;clear cW;have hb1:=B1.out;have hb2:=B2.out;have hb3:=B3.out;have hb4:=B4.out;have hs1:=hb1.size;have hs2:=hb2.size;have hs3:=hb3.size;have hs4:=hb4.size;have hB4:=Below.after hb1 B5.out
  have hB5:Below w.heap.size w w5:=⟨hO.os.trans hB4.os,hO.tape.trans hB4.tape,hO.output.trans hB4.output,by rw[hO.size];exact hB4.size,fun q hq=>(hO.block q (.inl hq)).trans (hB4.block q hq)⟩
  have C1:=hide hB5;have C2:=hide hq;clear hB5 hO hb1 hb2 hb3 hb4 B1 B2 B3 B4 B5 hv' hq
  go_wp2_with (fail)
  go_ret3
  exact⟨C1.out,.inr ⟨by rw[hx.out];exact C2.out,rfl⟩⟩
end Go.Proofs.YtmmlkfkpblokiaaGreatDoor
