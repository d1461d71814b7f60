import Derived.Test.YtmmlkfkpblokiaaGreatDoorQzOpen
import Derived.Laws.BitsAllLaws
import Derived.WalkMore
import Derived.Laws.EntriesVeiled
import Derived.Deep.RegionLaw
set_option maxRecDepth 100000
set_option maxHeartbeats 16000000
namespace Go.Proofs.YtmmlkfkpblokiaaGreatDoor
open Go Go.RowKit Go.Sort
attribute [local go_sem] setCell_drewN alloc_drewN
theorem xb3 (w:World) (o0 o1 o2:Obj):Below w.heap.size w (((w.alloc o0).alloc o1).alloc o2):=by
 refine .alloc (.alloc (.alloc (Below.refl _ _) ?_ _) ?_ _) ?_ _<;>simp<;>omega
theorem xp3_0 (w:World) (o0 o1 o2:Obj):(((w.alloc o0).alloc o1).alloc o2).heap[w.heap.size]? =some o0:=by
 have e:w.heap.size=w.heap.size:=by simp
 have h:=(Below.heap_alloc ((w.alloc o0).alloc o1) o2 _ (by simp<;>omega)).trans ((Below.heap_alloc (w.alloc o0) o1 _ (by simp<;>omega)).trans (hp1_0 w o0))
 rw[e] at h;exact h
theorem xp3_1 (w:World) (o0 o1 o2:Obj):(((w.alloc o0).alloc o1).alloc o2).heap[w.heap.size+1]? =some o1:=by
 have e:(w.alloc o0).heap.size=w.heap.size+1:=by simp
 have h:=(Below.heap_alloc ((w.alloc o0).alloc o1) o2 _ (by simp<;>omega)).trans (hp1_0 (w.alloc o0) o1)
 rw[e] at h;exact h
theorem xp3_2 (w:World) (o0 o1 o2:Obj):(((w.alloc o0).alloc o1).alloc o2).heap[w.heap.size+1+1]? =some o2:=by
 have e:((w.alloc o0).alloc o1).heap.size=w.heap.size+1+1:=by simp
 have h:=hp1_0 ((w.alloc o0).alloc o1) o2;rw[e] at h;exact h
theorem xb4 (w:World) (o0 o1 o2 o3:Obj):Below w.heap.size w ((((w.alloc o0).alloc o1).alloc o2).alloc o3):=by
 refine .alloc (.alloc (.alloc (.alloc (Below.refl _ _) ?_ _) ?_ _) ?_ _) ?_ _<;>simp<;>omega
theorem xp4_0 (w:World) (o0 o1 o2 o3:Obj):((((w.alloc o0).alloc o1).alloc o2).alloc o3).heap[w.heap.size]? =some o0:=by
 have e:w.heap.size=w.heap.size:=by simp
 have h:=(Below.heap_alloc (((w.alloc o0).alloc o1).alloc o2) o3 _ (by simp<;>omega)).trans ((Below.heap_alloc ((w.alloc o0).alloc o1) o2 _ (by simp<;>omega)).trans ((Below.heap_alloc (w.alloc o0) o1 _ (by simp<;>omega)).trans (hp1_0 w o0)))
 rw[e] at h;exact h
theorem xp4_1 (w:World) (o0 o1 o2 o3:Obj):((((w.alloc o0).alloc o1).alloc o2).alloc o3).heap[w.heap.size+1]? =some o1:=by
 have e:(w.alloc o0).heap.size=w.heap.size+1:=by simp
 have h:=(Below.heap_alloc (((w.alloc o0).alloc o1).alloc o2) o3 _ (by simp<;>omega)).trans ((Below.heap_alloc ((w.alloc o0).alloc o1) o2 _ (by simp<;>omega)).trans (hp1_0 (w.alloc o0) o1))
 rw[e] at h;exact h
theorem xp4_2 (w:World) (o0 o1 o2 o3:Obj):((((w.alloc o0).alloc o1).alloc o2).alloc o3).heap[w.heap.size+1+1]? =some o2:=by
 have e:((w.alloc o0).alloc o1).heap.size=w.heap.size+1+1:=by simp
 have h:=(Below.heap_alloc (((w.alloc o0).alloc o1).alloc o2) o3 _ (by simp<;>omega)).trans (hp1_0 ((w.alloc o0).alloc o1) o2)
 rw[e] at h;exact h
theorem xp4_3 (w:World) (o0 o1 o2 o3:Obj):((((w.alloc o0).alloc o1).alloc o2).alloc o3).heap[w.heap.size+1+1+1]? =some o3:=by
 have e:(((w.alloc o0).alloc o1).alloc o2).heap.size=w.heap.size+1+1+1:=by simp
 have h:=hp1_0 (((w.alloc o0).alloc o1).alloc o2) o3;rw[e] at h;exact h
theorem xb5 (w:World) (o0 o1 o2 o3 o4:Obj):Below w.heap.size w (((((w.alloc o0).alloc o1).alloc o2).alloc o3).alloc o4):=by
 refine .alloc (.alloc (.alloc (.alloc (.alloc (Below.refl _ _) ?_ _) ?_ _) ?_ _) ?_ _) ?_ _<;>simp<;>omega
theorem xp5_0 (w:World) (o0 o1 o2 o3 o4:Obj):(((((w.alloc o0).alloc o1).alloc o2).alloc o3).alloc o4).heap[w.heap.size]? =some o0:=by
 have e:w.heap.size=w.heap.size:=by simp
 have h:=(Below.heap_alloc ((((w.alloc o0).alloc o1).alloc o2).alloc o3) o4 _ (by simp<;>omega)).trans ((Below.heap_alloc (((w.alloc o0).alloc o1).alloc o2) o3 _ (by simp<;>omega)).trans ((Below.heap_alloc ((w.alloc o0).alloc o1) o2 _ (by simp<;>omega)).trans ((Below.heap_alloc (w.alloc o0) o1 _ (by simp<;>omega)).trans (hp1_0 w o0))))
 rw[e] at h;exact h
theorem xp5_1 (w:World) (o0 o1 o2 o3 o4:Obj):(((((w.alloc o0).alloc o1).alloc o2).alloc o3).alloc o4).heap[w.heap.size+1]? =some o1:=by
 have e:(w.alloc o0).heap.size=w.heap.size+1:=by simp
 have h:=(Below.heap_alloc ((((w.alloc o0).alloc o1).alloc o2).alloc o3) o4 _ (by simp<;>omega)).trans ((Below.heap_alloc (((w.alloc o0).alloc o1).alloc o2) o3 _ (by simp<;>omega)).trans ((Below.heap_alloc ((w.alloc o0).alloc o1) o2 _ (by simp<;>omega)).trans (hp1_0 (w.alloc o0) o1)))
 rw[e] at h;exact h
theorem xp5_2 (w:World) (o0 o1 o2 o3 o4:Obj):(((((w.alloc o0).alloc o1).alloc o2).alloc o3).alloc o4).heap[w.heap.size+1+1]? =some o2:=by
 have e:((w.alloc o0).alloc o1).heap.size=w.heap.size+1+1:=by simp
 have h:=(Below.heap_alloc ((((w.alloc o0).alloc o1).alloc o2).alloc o3) o4 _ (by simp<;>omega)).trans ((Below.heap_alloc (((w.alloc o0).alloc o1).alloc o2) o3 _ (by simp<;>omega)).trans (hp1_0 ((w.alloc o0).alloc o1) o2))
 rw[e] at h;exact h
theorem xp5_3 (w:World) (o0 o1 o2 o3 o4:Obj):(((((w.alloc o0).alloc o1).alloc o2).alloc o3).alloc o4).heap[w.heap.size+1+1+1]? =some o3:=by
 have e:(((w.alloc o0).alloc o1).alloc o2).heap.size=w.heap.size+1+1+1:=by simp
 have h:=(Below.heap_alloc ((((w.alloc o0).alloc o1).alloc o2).alloc o3) o4 _ (by simp<;>omega)).trans (hp1_0 (((w.alloc o0).alloc o1).alloc o2) o3)
 rw[e] at h;exact h
theorem xp5_4 (w:World) (o0 o1 o2 o3 o4:Obj):(((((w.alloc o0).alloc o1).alloc o2).alloc o3).alloc o4).heap[w.heap.size+1+1+1+1]? =some o4:=by
 have e:((((w.alloc o0).alloc o1).alloc o2).alloc o3).heap.size=w.heap.size+1+1+1+1:=by simp
 have h:=hp1_0 ((((w.alloc o0).alloc o1).alloc o2).alloc o3) o4;rw[e] at h;exact h
theorem infoSt:(Tryz.prog.info? 114).map (·.size)=some 5:=by kernel_rfl
def ptr (g:Nat):Value:=.pointer (some ⟨g,0,none⟩)
theorem a_plain (no wt:Int) (k:FuncId) (cs:Array Value) (w:World):Calls Tryz.prog 89 #[.int .i64 no,.int .i64 wt,.func (.func k) #[] cs] w fun e w'=>e=.returned (.agg #[.int .i64 no,.int .i64 wt,(.func (.func 114) #[] #[.pointer (some ⟨w.heap.size+1+1+1+1,0,none⟩),.pointer (some ⟨w.heap.size,0,none⟩),.pointer (some ⟨w.heap.size+1+1,0,none⟩)]:Value),(.func (.func 115) #[] #[.pointer (some ⟨w.heap.size,0,none⟩),.pointer (some ⟨w.heap.size+1,0,none⟩)]:Value),(.func (.func 116) #[] #[.pointer (some ⟨w.heap.size+1+1,0,none⟩)]:Value)])∧Below w.heap.size w w'∧(∃T,w'.heap[w.heap.size]? =some (.cells #[.int .i64 no] T (0,0)))∧(∃T,w'.heap[w.heap.size+1]? =some (.cells #[.int .i64 wt] T (0,0)))∧(∃T,w'.heap[w.heap.size+1+1]? =some (.cells #[.func (.func k) #[] cs] T (0,0)))∧(∃T,w'.heap[w.heap.size+1+1+1+1]? =some (.cells #[.bool (wt==2)] T (0,0))):=by
 go_enter Tryz.func89,Tryz.ntmps89
 go_wp2
 exact bodyPost_ret (v:=.agg #[.int .i64 no,.int .i64 wt,(.func (.func 114) #[] #[.pointer (some ⟨w.heap.size+1+1+1+1,0,none⟩),.pointer (some ⟨w.heap.size,0,none⟩),.pointer (some ⟨w.heap.size+1+1,0,none⟩)]:Value),(.func (.func 115) #[] #[.pointer (some ⟨w.heap.size,0,none⟩),.pointer (some ⟨w.heap.size+1,0,none⟩)]:Value),(.func (.func 116) #[] #[.pointer (some ⟨w.heap.size+1+1,0,none⟩)]:Value)]) (results_cell_row Tryz.results89 _ _ (w.heap.size+1+1+1) _ #[.int .i64 no,.int .i64 wt,(.func (.func 114) #[] #[.pointer (some ⟨w.heap.size+1+1+1+1,0,none⟩),.pointer (some ⟨w.heap.size,0,none⟩),.pointer (some ⟨w.heap.size+1+1,0,none⟩)]:Value),(.func (.func 115) #[] #[.pointer (some ⟨w.heap.size,0,none⟩),.pointer (some ⟨w.heap.size+1,0,none⟩)]:Value),(.func (.func 116) #[] #[.pointer (some ⟨w.heap.size+1+1,0,none⟩)]:Value)] _ _ rfl (xp5_3 w _ _ _ _ _) Tryz.underlying114 rfl infoSt) rfl ⟨rfl,xb5 w _ _ _ _ _,⟨_,xp5_0 w _ _ _ _ _⟩,⟨_,xp5_1 w _ _ _ _ _⟩,⟨_,xp5_2 w _ _ _ _ _⟩,⟨_,xp5_4 w _ _ _ _ _⟩⟩
theorem a_inner (no:Int) (ao:Option Addr) (n cap:Nat) (w:World):Calls Tryz.prog 96 #[.int .i64 no,.slice ao n cap] w fun e w'=>e=.returned (.agg #[.int .i64 no,.int .i64 2,(.func (.func 123) #[] #[.pointer (some ⟨w.heap.size+1,0,none⟩)]:Value),(.func (.func 124) #[] #[.pointer (some ⟨w.heap.size,0,none⟩),.pointer (some ⟨w.heap.size+1,0,none⟩)]:Value),(.func (.func 125) #[] #[.pointer (some ⟨w.heap.size+1,0,none⟩)]:Value)])∧Below w.heap.size w w'∧(∃T,w'.heap[w.heap.size]? =some (.cells #[.int .i64 no] T (0,0)))∧(∃T,w'.heap[w.heap.size+1]? =some (.cells #[.slice ao n cap] T (0,0))):=by
 go_enter Tryz.func96,Tryz.ntmps96
 go_wp2
 exact bodyPost_ret (v:=.agg #[.int .i64 no,.int .i64 2,(.func (.func 123) #[] #[.pointer (some ⟨w.heap.size+1,0,none⟩)]:Value),(.func (.func 124) #[] #[.pointer (some ⟨w.heap.size,0,none⟩),.pointer (some ⟨w.heap.size+1,0,none⟩)]:Value),(.func (.func 125) #[] #[.pointer (some ⟨w.heap.size+1,0,none⟩)]:Value)]) (results_cell_row Tryz.results96 _ _ (w.heap.size+1+1) _ #[.int .i64 no,.int .i64 2,(.func (.func 123) #[] #[.pointer (some ⟨w.heap.size+1,0,none⟩)]:Value),(.func (.func 124) #[] #[.pointer (some ⟨w.heap.size,0,none⟩),.pointer (some ⟨w.heap.size+1,0,none⟩)]:Value),(.func (.func 125) #[] #[.pointer (some ⟨w.heap.size+1,0,none⟩)]:Value)] _ _ rfl (xp3_2 w _ _ _) Tryz.underlying114 rfl infoSt) rfl ⟨rfl,xb3 w _ _ _,⟨_,xp3_0 w _ _ _⟩,⟨_,xp3_1 w _ _ _⟩⟩
theorem a_listed (no l mo:Int) (bo:Option Addr) (bn bc:Nat) (ao:Option Addr) (n cap:Nat) (w:World):Calls Tryz.prog 97 #[.int .i64 no,.agg #[.int .u64 l,.int .u64 mo,.slice bo bn bc],.slice ao n cap] w fun e w'=>e=.returned (.agg #[.int .i64 no,.int .i64 2,(.func (.func 127) #[] #[.pointer (some ⟨w.heap.size,0,none⟩),.pointer (some ⟨w.heap.size+1,0,none⟩),.pointer (some ⟨w.heap.size+1+1,0,none⟩)]:Value),(.func (.func 129) #[] #[.pointer (some ⟨w.heap.size,0,none⟩),.pointer (some ⟨w.heap.size+1+1,0,none⟩)]:Value),(.func (.func 131) #[] #[.pointer (some ⟨w.heap.size+1,0,none⟩),.pointer (some ⟨w.heap.size+1+1,0,none⟩)]:Value)])∧Below w.heap.size w w'∧(∃T,w'.heap[w.heap.size]? =some (.cells #[.int .i64 no] T (0,0)))∧(∃T,w'.heap[w.heap.size+1]? =some (.cells #[.int .u64 l,.int .u64 mo,.slice bo bn bc] T (0,0)))∧(∃T,w'.heap[w.heap.size+1+1]? =some (.cells #[.slice ao n cap] T (0,0))):=by
 go_enter Tryz.func97,Tryz.ntmps97
 go_wp2
 exact bodyPost_ret (v:=.agg #[.int .i64 no,.int .i64 2,(.func (.func 127) #[] #[.pointer (some ⟨w.heap.size,0,none⟩),.pointer (some ⟨w.heap.size+1,0,none⟩),.pointer (some ⟨w.heap.size+1+1,0,none⟩)]:Value),(.func (.func 129) #[] #[.pointer (some ⟨w.heap.size,0,none⟩),.pointer (some ⟨w.heap.size+1+1,0,none⟩)]:Value),(.func (.func 131) #[] #[.pointer (some ⟨w.heap.size+1,0,none⟩),.pointer (some ⟨w.heap.size+1+1,0,none⟩)]:Value)]) (results_cell_row Tryz.results97 _ _ (w.heap.size+1+1+1) _ #[.int .i64 no,.int .i64 2,(.func (.func 127) #[] #[.pointer (some ⟨w.heap.size,0,none⟩),.pointer (some ⟨w.heap.size+1,0,none⟩),.pointer (some ⟨w.heap.size+1+1,0,none⟩)]:Value),(.func (.func 129) #[] #[.pointer (some ⟨w.heap.size,0,none⟩),.pointer (some ⟨w.heap.size+1+1,0,none⟩)]:Value),(.func (.func 131) #[] #[.pointer (some ⟨w.heap.size+1,0,none⟩),.pointer (some ⟨w.heap.size+1+1,0,none⟩)]:Value)] _ _ rfl (xp4_3 w _ _ _ _) Tryz.underlying114 rfl infoSt) rfl ⟨rfl,xb4 w _ _ _ _,⟨_,xp4_0 w _ _ _ _⟩,⟨_,xp4_1 w _ _ _ _⟩,⟨_,xp4_2 w _ _ _ _⟩⟩
@[local go_sem] theorem run_store_flt {P:Program} {w:World} {a:Addr} {m:Mode} (k:FloatKind) (b:Nat):(store a (.float k b) m).run P w=stored P w a (.float k b) m:=run_store P w a _ m rfl
def Bx (W:World) (g:Nat) (c:Array Value):Prop:=∃T,W.heap[g]? =some (.cells c T (0,0))
theorem Bx.keep {W V:World} {g:Nat} {c:Array Value} (h:Bx W g c) (hb:Below W.heap.size W V):Bx V g c:=by
 obtain⟨T,h⟩:=h;exact⟨T,Go.Proofs.YtmmlkfkpblokiaaGreatDoor.keep hb h⟩
theorem Bx.other {W:World} {g k:Nat} {c:Array Value} {o:Nat} {v:Value} (h:Bx W g c) (hk:g≠k):Bx (W.setCell ⟨k,o,none⟩ v) g c:=by
 obtain⟨T,h⟩:=h;exact⟨T,(heap_setCell_other W _ g v hk).trans h⟩
theorem Bx.five {W:World} {g k:Nat} {c:Array Value} {o0 o1 o2 o3 o4:Nat} {v0 v1 v2 v3 v4:Value} (h:Bx W g c) (hk:g≠k):Bx (((((W.setCell ⟨k,o0,none⟩ v0).setCell ⟨k,o1,none⟩ v1).setCell ⟨k,o2,none⟩ v2).setCell ⟨k,o3,none⟩ v3).setCell ⟨k,o4,none⟩ v4) g c:=((((h.other hk).other hk).other hk).other hk).other hk
theorem ta_numbers (c:Value) (W:World):(Instr.typeAssert (.iface 177 c) 136 177 true).run Tryz.prog W=.ok (.tuple #[c,.bool true]) W:=by kernel_rfl
theorem ta_floats_numbers (c:Value) (W:World):(Instr.typeAssert (.iface 183 c) 136 177 true).run Tryz.prog W=.ok (.tuple #[.agg #[.int .i64 0,.int .u64 0,.int .u64 0],.bool false]) W:=by kernel_rfl
theorem ta_floats (c:Value) (W:World):(Instr.typeAssert (.iface 183 c) 136 183 true).run Tryz.prog W=.ok (.tuple #[c,.bool true]) W:=by kernel_rfl
theorem ta_octets_numbers (c:Value) (W:World):(Instr.typeAssert (.iface 186 c) 136 177 true).run Tryz.prog W=.ok (.tuple #[.agg #[.int .i64 0,.int .u64 0,.int .u64 0],.bool false]) W:=by kernel_rfl
theorem ta_octets_floats (c:Value) (W:World):(Instr.typeAssert (.iface 186 c) 136 183 true).run Tryz.prog W=.ok (.tuple #[.agg #[.float .f64 0],.bool false]) W:=by kernel_rfl
theorem ta_octets (c:Value) (W:World):(Instr.typeAssert (.iface 186 c) 136 186 true).run Tryz.prog W=.ok (.tuple #[c,.bool true]) W:=by kernel_rfl
theorem ta_message_numbers (c:Value) (W:World):(Instr.typeAssert (.iface 90 c) 136 177 true).run Tryz.prog W=.ok (.tuple #[.agg #[.int .i64 0,.int .u64 0,.int .u64 0],.bool false]) W:=by kernel_rfl
theorem ta_message_floats (c:Value) (W:World):(Instr.typeAssert (.iface 90 c) 136 183 true).run Tryz.prog W=.ok (.tuple #[.agg #[.float .f64 0],.bool false]) W:=by kernel_rfl
theorem ta_message_octets (c:Value) (W:World):(Instr.typeAssert (.iface 90 c) 136 186 true).run Tryz.prog W=.ok (.tuple #[.agg #[.int .u64 0,.int .u64 0,.bool false],.bool false]) W:=by kernel_rfl
theorem ta_message (c:Value) (W:World):(Instr.typeAssert (.iface 90 c) 136 90 true).run Tryz.prog W=.ok (.tuple #[c,.bool true]) W:=by kernel_rfl
theorem ta_lists_numbers (c:Value) (W:World):(Instr.typeAssert (.iface 190 c) 136 177 true).run Tryz.prog W=.ok (.tuple #[.agg #[.int .i64 0,.int .u64 0,.int .u64 0],.bool false]) W:=by kernel_rfl
theorem ta_lists_floats (c:Value) (W:World):(Instr.typeAssert (.iface 190 c) 136 183 true).run Tryz.prog W=.ok (.tuple #[.agg #[.float .f64 0],.bool false]) W:=by kernel_rfl
theorem ta_lists_octets (c:Value) (W:World):(Instr.typeAssert (.iface 190 c) 136 186 true).run Tryz.prog W=.ok (.tuple #[.agg #[.int .u64 0,.int .u64 0,.bool false],.bool false]) W:=by kernel_rfl
theorem ta_lists_message (c:Value) (W:World):(Instr.typeAssert (.iface 190 c) 136 90 true).run Tryz.prog W=.ok (.tuple #[nS,.bool false]) W:=by kernel_rfl
theorem ta_lists (c:Value) (W:World):(Instr.typeAssert (.iface 190 c) 136 190 true).run Tryz.prog W=.ok (.tuple #[c,.bool true]) W:=by kernel_rfl
theorem a_ready_num (no wt:Int) (l m:Int) (w:World):Calls Tryz.prog 70 #[.agg #[.int .i64 no,.iface 177 (.agg #[.int .i64 wt,.int .u64 l,.int .u64 m])]] w fun e w'=>e=.returned (.agg #[.int .i64 no,.int .i64 wt,(.func (.func 114) #[] #[.pointer (some ⟨(w.heap.size+1+1+1)+1+1+1+1,0,none⟩),.pointer (some ⟨(w.heap.size+1+1+1),0,none⟩),.pointer (some ⟨(w.heap.size+1+1+1)+1+1,0,none⟩)]:Value),(.func (.func 115) #[] #[.pointer (some ⟨(w.heap.size+1+1+1),0,none⟩),.pointer (some ⟨(w.heap.size+1+1+1)+1,0,none⟩)]:Value),(.func (.func 116) #[] #[.pointer (some ⟨(w.heap.size+1+1+1)+1+1,0,none⟩)]:Value)])∧Below w.heap.size w w'∧Bx w' (w.heap.size+1+1) #[.int .i64 wt,.int .u64 l,.int .u64 m]∧Bx w' (w.heap.size+1+1+1) #[.int .i64 no]∧Bx w' ((w.heap.size+1+1+1)+1) #[.int .i64 wt]∧Bx w' ((w.heap.size+1+1+1)+1+1) #[.func (.func 90) #[] #[.pointer (some ⟨w.heap.size+1+1,0,none⟩)]]∧Bx w' ((w.heap.size+1+1+1)+1+1+1+1) #[.bool ((wt:Int)==2)]:=by
 have hsz:(((w.alloc (.cells #[.int .i64 no,.iface 177 (.agg #[.int .i64 wt,.int .u64 l,.int .u64 m])] 138)).alloc (.cells #[.int .i64 0,.int .i64 0,.nilFunc,.nilFunc,.nilFunc] 114)).alloc (.cells #[.int .i64 wt,.int .u64 l,.int .u64 m] 177)).heap.size=(w.heap.size+1+1+1):=by simp
 have cP:=a_plain no wt 90 #[.pointer (some ⟨w.heap.size+1+1,0,none⟩)] (((w.alloc (.cells #[.int .i64 no,.iface 177 (.agg #[.int .i64 wt,.int .u64 l,.int .u64 m])] 138)).alloc (.cells #[.int .i64 0,.int .i64 0,.nilFunc,.nilFunc,.nilFunc] 114)).alloc (.cells #[.int .i64 wt,.int .u64 l,.int .u64 m] 177));rw[hsz] at cP;have q1:=xp3_1 w (.cells #[.int .i64 no,.iface 177 (.agg #[.int .i64 wt,.int .u64 l,.int .u64 m])] 138) (.cells #[.int .i64 0,.int .i64 0,.nilFunc,.nilFunc,.nilFunc] 114) (.cells #[.int .i64 wt,.int .u64 l,.int .u64 m] 177);have q2:=xp3_2 w (.cells #[.int .i64 no,.iface 177 (.agg #[.int .i64 wt,.int .u64 l,.int .u64 m])] 138) (.cells #[.int .i64 0,.int .i64 0,.nilFunc,.nilFunc,.nilFunc] 114) (.cells #[.int .i64 wt,.int .u64 l,.int .u64 m] 177);have hb:=xb3 w (.cells #[.int .i64 no,.iface 177 (.agg #[.int .i64 wt,.int .u64 l,.int .u64 m])] 138) (.cells #[.int .i64 0,.int .i64 0,.nilFunc,.nilFunc,.nilFunc] 114) (.cells #[.int .i64 wt,.int .u64 l,.int .u64 m] 177);have t0:=ta_numbers (.agg #[.int .i64 wt,.int .u64 l,.int .u64 m]);have A0:=hide hsz;have A1:=hide q1;have A2:=hide q2;have A3:=hide hb;clear hsz q1 q2 hb
 go_enter Tryz.func70,Tryz.ntmps70
 go_wp2_with (fail)
 generalize (((w.alloc (.cells #[.int .i64 no,.iface 177 (.agg #[.int .i64 wt,.int .u64 l,.int .u64 m])] 138)).alloc (.cells #[.int .i64 0,.int .i64 0,.nilFunc,.nilFunc,.nilFunc] 114)).alloc (.cells #[.int .i64 wt,.int .u64 l,.int .u64 m] 177))=w3 at *
 refine cP.mono ?_;rintro e_ w4 ⟨rfl,hb4,b0,b1,b2,b4⟩
 have hb4':Below w3.heap.size w3 w4:=by rw[A0.out];exact hb4
 have r1:=keep hb4' A1.out;have r2:=keep hb4' A2.out;have hB:=Below.after A3.out hb4';have n0:w4.cell? ⟨w.heap.size+1,0,none⟩=some (.int .i64 0):=cell_of_row _ _ _ _ _ _ r1;have n1:w4.cell? ⟨w.heap.size+1,1,none⟩=some (.int .i64 0):=cell_of_row _ _ _ _ _ _ r1;have n2:w4.cell? ⟨w.heap.size+1,2,none⟩=some .nilFunc:=cell_of_row _ _ _ _ _ _ r1;have n3:w4.cell? ⟨w.heap.size+1,3,none⟩=some .nilFunc:=cell_of_row _ _ _ _ _ _ r1;have n4:w4.cell? ⟨w.heap.size+1,4,none⟩=some .nilFunc:=cell_of_row _ _ _ _ _ _ r1
 have z0:w4.frozen? ⟨w.heap.size+1,0,none⟩=false:=by simp[World.frozen?,r1]
 have z1:w4.frozen? ⟨w.heap.size+1,1,none⟩=false:=by simp[World.frozen?,r1]
 have z2:w4.frozen? ⟨w.heap.size+1,2,none⟩=false:=by simp[World.frozen?,r1]
 have z3:w4.frozen? ⟨w.heap.size+1,3,none⟩=false:=by simp[World.frozen?,r1]
 have z4:w4.frozen? ⟨w.heap.size+1,4,none⟩=false:=by simp[World.frozen?,r1]
 have A4:=hide r1;have A5:=hide r2;have A6:=hide hB;have A7:=hide b0;have A8:=hide b1;have A9:=hide b2;have AA:=hide b4;clear r1 r2 hB b0 b1 b2 b4 hb4 hb4' cP A0 A1 A2 A3
 go_wp2_with (fail)
 have HR:=heap_setCell_same _ (w.heap.size+1) 4 _ _ ((.func (.func 116) #[] #[.pointer (some ⟨(w.heap.size+1+1+1)+1+1,0,none⟩)]:Value)) (heap_setCell_same _ (w.heap.size+1) 3 _ _ ((.func (.func 115) #[] #[.pointer (some ⟨(w.heap.size+1+1+1),0,none⟩),.pointer (some ⟨(w.heap.size+1+1+1)+1,0,none⟩)]:Value)) (heap_setCell_same _ (w.heap.size+1) 2 _ _ ((.func (.func 114) #[] #[.pointer (some ⟨(w.heap.size+1+1+1)+1+1+1+1,0,none⟩),.pointer (some ⟨(w.heap.size+1+1+1),0,none⟩),.pointer (some ⟨(w.heap.size+1+1+1)+1+1,0,none⟩)]:Value)) (heap_setCell_same _ (w.heap.size+1) 1 _ _ (.int .i64 wt) (heap_setCell_same w4 (w.heap.size+1) 0 _ _ (.int .i64 no) A4.out))))
 exact bodyPost_ret (v:=.agg #[.int .i64 no,.int .i64 wt,(.func (.func 114) #[] #[.pointer (some ⟨(w.heap.size+1+1+1)+1+1+1+1,0,none⟩),.pointer (some ⟨(w.heap.size+1+1+1),0,none⟩),.pointer (some ⟨(w.heap.size+1+1+1)+1+1,0,none⟩)]:Value),(.func (.func 115) #[] #[.pointer (some ⟨(w.heap.size+1+1+1),0,none⟩),.pointer (some ⟨(w.heap.size+1+1+1)+1,0,none⟩)]:Value),(.func (.func 116) #[] #[.pointer (some ⟨(w.heap.size+1+1+1)+1+1,0,none⟩)]:Value)]) (results_cell_row Tryz.results70 _ _ (w.heap.size+1) _ #[.int .i64 no,.int .i64 wt,(.func (.func 114) #[] #[.pointer (some ⟨(w.heap.size+1+1+1)+1+1+1+1,0,none⟩),.pointer (some ⟨(w.heap.size+1+1+1),0,none⟩),.pointer (some ⟨(w.heap.size+1+1+1)+1+1,0,none⟩)]:Value),(.func (.func 115) #[] #[.pointer (some ⟨(w.heap.size+1+1+1),0,none⟩),.pointer (some ⟨(w.heap.size+1+1+1)+1,0,none⟩)]:Value),(.func (.func 116) #[] #[.pointer (some ⟨(w.heap.size+1+1+1)+1+1,0,none⟩)]:Value)] _ _ rfl HR Tryz.underlying114 rfl infoSt) rfl ⟨rfl,(((((A6.out.setCell (by show w.heap.size≤w.heap.size+1;omega) _).setCell (by show w.heap.size≤w.heap.size+1;omega) _).setCell (by show w.heap.size≤w.heap.size+1;omega) _).setCell (by show w.heap.size≤w.heap.size+1;omega) _).setCell (by show w.heap.size≤w.heap.size+1;omega) _),
  Bx.five ⟨_,A5.out⟩ (by omega),Bx.five A7.out (by omega),Bx.five A8.out (by omega),Bx.five A9.out (by omega),Bx.five AA.out (by omega)⟩
theorem a_ready_flt (no:Int) (x:Nat) (w:World):Calls Tryz.prog 70 #[.agg #[.int .i64 no,.iface 183 (.agg #[.float .f64 x])]] w fun e w'=>e=.returned (.agg #[.int .i64 no,.int .i64 1,(.func (.func 114) #[] #[.pointer (some ⟨(w.heap.size+1+1+1)+1+1+1+1,0,none⟩),.pointer (some ⟨(w.heap.size+1+1+1),0,none⟩),.pointer (some ⟨(w.heap.size+1+1+1)+1+1,0,none⟩)]:Value),(.func (.func 115) #[] #[.pointer (some ⟨(w.heap.size+1+1+1),0,none⟩),.pointer (some ⟨(w.heap.size+1+1+1)+1,0,none⟩)]:Value),(.func (.func 116) #[] #[.pointer (some ⟨(w.heap.size+1+1+1)+1+1,0,none⟩)]:Value)])∧Below w.heap.size w w'∧Bx w' (w.heap.size+1+1) #[.float .f64 x]∧Bx w' (w.heap.size+1+1+1) #[.int .i64 no]∧Bx w' ((w.heap.size+1+1+1)+1) #[.int .i64 1]∧Bx w' ((w.heap.size+1+1+1)+1+1) #[.func (.func 92) #[] #[.pointer (some ⟨w.heap.size+1+1,0,none⟩)]]∧Bx w' ((w.heap.size+1+1+1)+1+1+1+1) #[.bool ((1:Int)==2)]:=by
 have hsz:(((w.alloc (.cells #[.int .i64 no,.iface 183 (.agg #[.float .f64 x])] 138)).alloc (.cells #[.int .i64 0,.int .i64 0,.nilFunc,.nilFunc,.nilFunc] 114)).alloc (.cells #[.float .f64 x] 183)).heap.size=(w.heap.size+1+1+1):=by simp
 have cP:=a_plain no 1 92 #[.pointer (some ⟨w.heap.size+1+1,0,none⟩)] (((w.alloc (.cells #[.int .i64 no,.iface 183 (.agg #[.float .f64 x])] 138)).alloc (.cells #[.int .i64 0,.int .i64 0,.nilFunc,.nilFunc,.nilFunc] 114)).alloc (.cells #[.float .f64 x] 183));rw[hsz] at cP;have q1:=xp3_1 w (.cells #[.int .i64 no,.iface 183 (.agg #[.float .f64 x])] 138) (.cells #[.int .i64 0,.int .i64 0,.nilFunc,.nilFunc,.nilFunc] 114) (.cells #[.float .f64 x] 183);have q2:=xp3_2 w (.cells #[.int .i64 no,.iface 183 (.agg #[.float .f64 x])] 138) (.cells #[.int .i64 0,.int .i64 0,.nilFunc,.nilFunc,.nilFunc] 114) (.cells #[.float .f64 x] 183);have hb:=xb3 w (.cells #[.int .i64 no,.iface 183 (.agg #[.float .f64 x])] 138) (.cells #[.int .i64 0,.int .i64 0,.nilFunc,.nilFunc,.nilFunc] 114) (.cells #[.float .f64 x] 183);have t0:=ta_floats_numbers (.agg #[.float .f64 x]);have t1:=ta_floats (.agg #[.float .f64 x]);have A0:=hide hsz;have A1:=hide q1;have A2:=hide q2;have A3:=hide hb;clear hsz q1 q2 hb
 go_enter Tryz.func70,Tryz.ntmps70
 go_wp2_with (fail)
 generalize (((w.alloc (.cells #[.int .i64 no,.iface 183 (.agg #[.float .f64 x])] 138)).alloc (.cells #[.int .i64 0,.int .i64 0,.nilFunc,.nilFunc,.nilFunc] 114)).alloc (.cells #[.float .f64 x] 183))=w3 at *
 refine cP.mono ?_;rintro e_ w4 ⟨rfl,hb4,b0,b1,b2,b4⟩
 have hb4':Below w3.heap.size w3 w4:=by rw[A0.out];exact hb4
 have r1:=keep hb4' A1.out;have r2:=keep hb4' A2.out;have hB:=Below.after A3.out hb4';have n0:w4.cell? ⟨w.heap.size+1,0,none⟩=some (.int .i64 0):=cell_of_row _ _ _ _ _ _ r1;have n1:w4.cell? ⟨w.heap.size+1,1,none⟩=some (.int .i64 0):=cell_of_row _ _ _ _ _ _ r1;have n2:w4.cell? ⟨w.heap.size+1,2,none⟩=some .nilFunc:=cell_of_row _ _ _ _ _ _ r1;have n3:w4.cell? ⟨w.heap.size+1,3,none⟩=some .nilFunc:=cell_of_row _ _ _ _ _ _ r1;have n4:w4.cell? ⟨w.heap.size+1,4,none⟩=some .nilFunc:=cell_of_row _ _ _ _ _ _ r1
 have z0:w4.frozen? ⟨w.heap.size+1,0,none⟩=false:=by simp[World.frozen?,r1]
 have z1:w4.frozen? ⟨w.heap.size+1,1,none⟩=false:=by simp[World.frozen?,r1]
 have z2:w4.frozen? ⟨w.heap.size+1,2,none⟩=false:=by simp[World.frozen?,r1]
 have z3:w4.frozen? ⟨w.heap.size+1,3,none⟩=false:=by simp[World.frozen?,r1]
 have z4:w4.frozen? ⟨w.heap.size+1,4,none⟩=false:=by simp[World.frozen?,r1]
 have A4:=hide r1;have A5:=hide r2;have A6:=hide hB;have A7:=hide b0;have A8:=hide b1;have A9:=hide b2;have AA:=hide b4;clear r1 r2 hB b0 b1 b2 b4 hb4 hb4' cP A0 A1 A2 A3
 go_wp2_with (fail)
 have HR:=heap_setCell_same _ (w.heap.size+1) 4 _ _ ((.func (.func 116) #[] #[.pointer (some ⟨(w.heap.size+1+1+1)+1+1,0,none⟩)]:Value)) (heap_setCell_same _ (w.heap.size+1) 3 _ _ ((.func (.func 115) #[] #[.pointer (some ⟨(w.heap.size+1+1+1),0,none⟩),.pointer (some ⟨(w.heap.size+1+1+1)+1,0,none⟩)]:Value)) (heap_setCell_same _ (w.heap.size+1) 2 _ _ ((.func (.func 114) #[] #[.pointer (some ⟨(w.heap.size+1+1+1)+1+1+1+1,0,none⟩),.pointer (some ⟨(w.heap.size+1+1+1),0,none⟩),.pointer (some ⟨(w.heap.size+1+1+1)+1+1,0,none⟩)]:Value)) (heap_setCell_same _ (w.heap.size+1) 1 _ _ (.int .i64 1) (heap_setCell_same w4 (w.heap.size+1) 0 _ _ (.int .i64 no) A4.out))))
 exact bodyPost_ret (v:=.agg #[.int .i64 no,.int .i64 1,(.func (.func 114) #[] #[.pointer (some ⟨(w.heap.size+1+1+1)+1+1+1+1,0,none⟩),.pointer (some ⟨(w.heap.size+1+1+1),0,none⟩),.pointer (some ⟨(w.heap.size+1+1+1)+1+1,0,none⟩)]:Value),(.func (.func 115) #[] #[.pointer (some ⟨(w.heap.size+1+1+1),0,none⟩),.pointer (some ⟨(w.heap.size+1+1+1)+1,0,none⟩)]:Value),(.func (.func 116) #[] #[.pointer (some ⟨(w.heap.size+1+1+1)+1+1,0,none⟩)]:Value)]) (results_cell_row Tryz.results70 _ _ (w.heap.size+1) _ #[.int .i64 no,.int .i64 1,(.func (.func 114) #[] #[.pointer (some ⟨(w.heap.size+1+1+1)+1+1+1+1,0,none⟩),.pointer (some ⟨(w.heap.size+1+1+1),0,none⟩),.pointer (some ⟨(w.heap.size+1+1+1)+1+1,0,none⟩)]:Value),(.func (.func 115) #[] #[.pointer (some ⟨(w.heap.size+1+1+1),0,none⟩),.pointer (some ⟨(w.heap.size+1+1+1)+1,0,none⟩)]:Value),(.func (.func 116) #[] #[.pointer (some ⟨(w.heap.size+1+1+1)+1+1,0,none⟩)]:Value)] _ _ rfl HR Tryz.underlying114 rfl infoSt) rfl ⟨rfl,(((((A6.out.setCell (by show w.heap.size≤w.heap.size+1;omega) _).setCell (by show w.heap.size≤w.heap.size+1;omega) _).setCell (by show w.heap.size≤w.heap.size+1;omega) _).setCell (by show w.heap.size≤w.heap.size+1;omega) _).setCell (by show w.heap.size≤w.heap.size+1;omega) _),
  Bx.five ⟨_,A5.out⟩ (by omega),Bx.five A7.out (by omega),Bx.five A8.out (by omega),Bx.five A9.out (by omega),Bx.five AA.out (by omega)⟩
theorem a_ready_oct (no:Int) (l m:Int) (b:Bool) (w:World):Calls Tryz.prog 70 #[.agg #[.int .i64 no,.iface 186 (.agg #[.int .u64 l,.int .u64 m,.bool b])]] w fun e w'=>e=.returned (.agg #[.int .i64 no,.int .i64 2,(.func (.func 114) #[] #[.pointer (some ⟨(w.heap.size+1+1+1)+1+1+1+1,0,none⟩),.pointer (some ⟨(w.heap.size+1+1+1),0,none⟩),.pointer (some ⟨(w.heap.size+1+1+1)+1+1,0,none⟩)]:Value),(.func (.func 115) #[] #[.pointer (some ⟨(w.heap.size+1+1+1),0,none⟩),.pointer (some ⟨(w.heap.size+1+1+1)+1,0,none⟩)]:Value),(.func (.func 116) #[] #[.pointer (some ⟨(w.heap.size+1+1+1)+1+1,0,none⟩)]:Value)])∧Below w.heap.size w w'∧Bx w' (w.heap.size+1+1) #[.int .u64 l,.int .u64 m,.bool b]∧Bx w' (w.heap.size+1+1+1) #[.int .i64 no]∧Bx w' ((w.heap.size+1+1+1)+1) #[.int .i64 2]∧Bx w' ((w.heap.size+1+1+1)+1+1) #[.func (.func 94) #[] #[.pointer (some ⟨w.heap.size+1+1,0,none⟩)]]∧Bx w' ((w.heap.size+1+1+1)+1+1+1+1) #[.bool ((2:Int)==2)]:=by
 have hsz:(((w.alloc (.cells #[.int .i64 no,.iface 186 (.agg #[.int .u64 l,.int .u64 m,.bool b])] 138)).alloc (.cells #[.int .i64 0,.int .i64 0,.nilFunc,.nilFunc,.nilFunc] 114)).alloc (.cells #[.int .u64 l,.int .u64 m,.bool b] 186)).heap.size=(w.heap.size+1+1+1):=by simp
 have cP:=a_plain no 2 94 #[.pointer (some ⟨w.heap.size+1+1,0,none⟩)] (((w.alloc (.cells #[.int .i64 no,.iface 186 (.agg #[.int .u64 l,.int .u64 m,.bool b])] 138)).alloc (.cells #[.int .i64 0,.int .i64 0,.nilFunc,.nilFunc,.nilFunc] 114)).alloc (.cells #[.int .u64 l,.int .u64 m,.bool b] 186));rw[hsz] at cP;have q1:=xp3_1 w (.cells #[.int .i64 no,.iface 186 (.agg #[.int .u64 l,.int .u64 m,.bool b])] 138) (.cells #[.int .i64 0,.int .i64 0,.nilFunc,.nilFunc,.nilFunc] 114) (.cells #[.int .u64 l,.int .u64 m,.bool b] 186);have q2:=xp3_2 w (.cells #[.int .i64 no,.iface 186 (.agg #[.int .u64 l,.int .u64 m,.bool b])] 138) (.cells #[.int .i64 0,.int .i64 0,.nilFunc,.nilFunc,.nilFunc] 114) (.cells #[.int .u64 l,.int .u64 m,.bool b] 186);have hb:=xb3 w (.cells #[.int .i64 no,.iface 186 (.agg #[.int .u64 l,.int .u64 m,.bool b])] 138) (.cells #[.int .i64 0,.int .i64 0,.nilFunc,.nilFunc,.nilFunc] 114) (.cells #[.int .u64 l,.int .u64 m,.bool b] 186);have t0:=ta_octets_numbers (.agg #[.int .u64 l,.int .u64 m,.bool b]);have t1:=ta_octets_floats (.agg #[.int .u64 l,.int .u64 m,.bool b]);have t2:=ta_octets (.agg #[.int .u64 l,.int .u64 m,.bool b]);have A0:=hide hsz;have A1:=hide q1;have A2:=hide q2;have A3:=hide hb;clear hsz q1 q2 hb
 go_enter Tryz.func70,Tryz.ntmps70
 go_wp2_with (fail)
 generalize (((w.alloc (.cells #[.int .i64 no,.iface 186 (.agg #[.int .u64 l,.int .u64 m,.bool b])] 138)).alloc (.cells #[.int .i64 0,.int .i64 0,.nilFunc,.nilFunc,.nilFunc] 114)).alloc (.cells #[.int .u64 l,.int .u64 m,.bool b] 186))=w3 at *
 refine cP.mono ?_;rintro e_ w4 ⟨rfl,hb4,b0,b1,b2,b4⟩
 have hb4':Below w3.heap.size w3 w4:=by rw[A0.out];exact hb4
 have r1:=keep hb4' A1.out;have r2:=keep hb4' A2.out;have hB:=Below.after A3.out hb4';have n0:w4.cell? ⟨w.heap.size+1,0,none⟩=some (.int .i64 0):=cell_of_row _ _ _ _ _ _ r1;have n1:w4.cell? ⟨w.heap.size+1,1,none⟩=some (.int .i64 0):=cell_of_row _ _ _ _ _ _ r1;have n2:w4.cell? ⟨w.heap.size+1,2,none⟩=some .nilFunc:=cell_of_row _ _ _ _ _ _ r1;have n3:w4.cell? ⟨w.heap.size+1,3,none⟩=some .nilFunc:=cell_of_row _ _ _ _ _ _ r1;have n4:w4.cell? ⟨w.heap.size+1,4,none⟩=some .nilFunc:=cell_of_row _ _ _ _ _ _ r1
 have z0:w4.frozen? ⟨w.heap.size+1,0,none⟩=false:=by simp[World.frozen?,r1]
 have z1:w4.frozen? ⟨w.heap.size+1,1,none⟩=false:=by simp[World.frozen?,r1]
 have z2:w4.frozen? ⟨w.heap.size+1,2,none⟩=false:=by simp[World.frozen?,r1]
 have z3:w4.frozen? ⟨w.heap.size+1,3,none⟩=false:=by simp[World.frozen?,r1]
 have z4:w4.frozen? ⟨w.heap.size+1,4,none⟩=false:=by simp[World.frozen?,r1]
 have A4:=hide r1;have A5:=hide r2;have A6:=hide hB;have A7:=hide b0;have A8:=hide b1;have A9:=hide b2;have AA:=hide b4;clear r1 r2 hB b0 b1 b2 b4 hb4 hb4' cP A0 A1 A2 A3
 go_wp2_with (fail)
 have HR:=heap_setCell_same _ (w.heap.size+1) 4 _ _ ((.func (.func 116) #[] #[.pointer (some ⟨(w.heap.size+1+1+1)+1+1,0,none⟩)]:Value)) (heap_setCell_same _ (w.heap.size+1) 3 _ _ ((.func (.func 115) #[] #[.pointer (some ⟨(w.heap.size+1+1+1),0,none⟩),.pointer (some ⟨(w.heap.size+1+1+1)+1,0,none⟩)]:Value)) (heap_setCell_same _ (w.heap.size+1) 2 _ _ ((.func (.func 114) #[] #[.pointer (some ⟨(w.heap.size+1+1+1)+1+1+1+1,0,none⟩),.pointer (some ⟨(w.heap.size+1+1+1),0,none⟩),.pointer (some ⟨(w.heap.size+1+1+1)+1+1,0,none⟩)]:Value)) (heap_setCell_same _ (w.heap.size+1) 1 _ _ (.int .i64 2) (heap_setCell_same w4 (w.heap.size+1) 0 _ _ (.int .i64 no) A4.out))))
 exact bodyPost_ret (v:=.agg #[.int .i64 no,.int .i64 2,(.func (.func 114) #[] #[.pointer (some ⟨(w.heap.size+1+1+1)+1+1+1+1,0,none⟩),.pointer (some ⟨(w.heap.size+1+1+1),0,none⟩),.pointer (some ⟨(w.heap.size+1+1+1)+1+1,0,none⟩)]:Value),(.func (.func 115) #[] #[.pointer (some ⟨(w.heap.size+1+1+1),0,none⟩),.pointer (some ⟨(w.heap.size+1+1+1)+1,0,none⟩)]:Value),(.func (.func 116) #[] #[.pointer (some ⟨(w.heap.size+1+1+1)+1+1,0,none⟩)]:Value)]) (results_cell_row Tryz.results70 _ _ (w.heap.size+1) _ #[.int .i64 no,.int .i64 2,(.func (.func 114) #[] #[.pointer (some ⟨(w.heap.size+1+1+1)+1+1+1+1,0,none⟩),.pointer (some ⟨(w.heap.size+1+1+1),0,none⟩),.pointer (some ⟨(w.heap.size+1+1+1)+1+1,0,none⟩)]:Value),(.func (.func 115) #[] #[.pointer (some ⟨(w.heap.size+1+1+1),0,none⟩),.pointer (some ⟨(w.heap.size+1+1+1)+1,0,none⟩)]:Value),(.func (.func 116) #[] #[.pointer (some ⟨(w.heap.size+1+1+1)+1+1,0,none⟩)]:Value)] _ _ rfl HR Tryz.underlying114 rfl infoSt) rfl ⟨rfl,(((((A6.out.setCell (by show w.heap.size≤w.heap.size+1;omega) _).setCell (by show w.heap.size≤w.heap.size+1;omega) _).setCell (by show w.heap.size≤w.heap.size+1;omega) _).setCell (by show w.heap.size≤w.heap.size+1;omega) _).setCell (by show w.heap.size≤w.heap.size+1;omega) _),
  Bx.five ⟨_,A5.out⟩ (by omega),Bx.five A7.out (by omega),Bx.five A8.out (by omega),Bx.five A9.out (by omega),Bx.five AA.out (by omega)⟩
theorem a_ready_msg (R:Value→World→Prop) (hR:∀v V V',R v V→Below V.heap.size V V'→R v V') (no:Int) (so:Option Addr) (sn sc:Nat) (w:World)
 (hC:∀V,Below w.heap.size w V→w.heap.size+1+1≤V.heap.size→Calls Tryz.prog 43 #[.slice so sn sc] V fun e w'=>∃v,e=.returned v∧(∃xo xn xc,v=.slice xo xn xc)∧Below V.heap.size V w'∧R v w'):
 Calls Tryz.prog 70 #[.agg #[.int .i64 no,.iface 90 (.slice so sn sc)]] w fun e w'=>∃(n:Nat) (x:Value) (w4:World),w.heap.size+1+1≤n∧e=.returned (.agg #[.int .i64 no,.int .i64 2,(.func (.func 123) #[] #[.pointer (some ⟨n+1,0,none⟩)]:Value),(.func (.func 124) #[] #[.pointer (some ⟨n,0,none⟩),.pointer (some ⟨n+1,0,none⟩)]:Value),(.func (.func 125) #[] #[.pointer (some ⟨n+1,0,none⟩)]:Value)])∧Below w.heap.size w w'∧Bx w' n #[.int .i64 no]∧Bx w' (n+1) #[x]∧R x w4∧Below w.heap.size w w4∧w'=w4.setRow (w.heap.size+1) #[.int .i64 no,.int .i64 2,(.func (.func 123) #[] #[.pointer (some ⟨n+1,0,none⟩)]:Value),(.func (.func 124) #[] #[.pointer (some ⟨n,0,none⟩),.pointer (some ⟨n+1,0,none⟩)]:Value),(.func (.func 125) #[] #[.pointer (some ⟨n+1,0,none⟩)]:Value)]:=by
 have R0:=hp2_0 w (.cells #[.int .i64 no,.iface 90 (.slice so sn sc)] 138) (.cells #[.int .i64 0,.int .i64 0,.nilFunc,.nilFunc,.nilFunc] 114);have R1:=hp2_1 w (.cells #[.int .i64 no,.iface 90 (.slice so sn sc)] 138) (.cells #[.int .i64 0,.int .i64 0,.nilFunc,.nilFunc,.nilFunc] 114)
 have hb:Below w.heap.size w ((w.alloc (.cells #[.int .i64 no,.iface 90 (.slice so sn sc)] 138)).alloc (.cells #[.int .i64 0,.int .i64 0,.nilFunc,.nilFunc,.nilFunc] 114)):=((Below.refl _ _).alloc (Nat.le_refl _) _).alloc (by simp) _
 have hz:((w.alloc (.cells #[.int .i64 no,.iface 90 (.slice so sn sc)] 138)).alloc (.cells #[.int .i64 0,.int .i64 0,.nilFunc,.nilFunc,.nilFunc] 114)).heap.size=w.heap.size+1+1:=by simp
 have c1:((w.alloc (.cells #[.int .i64 no,.iface 90 (.slice so sn sc)] 138)).alloc (.cells #[.int .i64 0,.int .i64 0,.nilFunc,.nilFunc,.nilFunc] 114)).cell? ⟨w.heap.size,1,none⟩=some (.iface 90 (.slice so sn sc)):=cell_of_row _ _ _ _ _ _ R0;have t0:=ta_message_numbers (.slice so sn sc);have t1:=ta_message_floats (.slice so sn sc);have t2:=ta_message_octets (.slice so sn sc);have t3:=ta_message (.slice so sn sc);have A0:=hide R0;have A1:=hide R1;have A2:=hide hb;have A3:=hide hz;clear R0 R1 hb hz
 go_enter Tryz.func70,Tryz.ntmps70
 go_wp2_with (fail)
 generalize ((w.alloc (.cells #[.int .i64 no,.iface 90 (.slice so sn sc)] 138)).alloc (.cells #[.int .i64 0,.int .i64 0,.nilFunc,.nilFunc,.nilFunc] 114))=w2 at *
 have R0:=A0.out;have R1:=A1.out;have hb:=A2.out;have hz:=A3.out;clear A0 A1 A2 A3 c1 t0 t1 t2 t3
 refine wp_region_held (S:=fun W=>W.heap[w.heap.size]? =some (.cells #[.int .i64 no,.iface 90 (.slice so sn sc)] 138 (0,0))) (by kernel_rfl) ?_
 change wpAnyH _ _ _ _ _ _ _ _ (World.drew _)
 have hbd:Below w2.heap.size w2 w2.drew:=below_drN (Below.refl _ _) 1;replace R0:=keep hbd R0;replace R1:=keep hbd R1;replace hb:=Below.after hb hbd;have hz2:w.heap.size+1+1≤w2.drew.heap.size:=Nat.le_trans (Nat.le_of_eq hz.symm) hbd.size;clear hbd hz
 generalize w2.drew=w3 at *
 refine wTy 0 ?v1 rfl ?y1 R0 ?r1
 case y1=>
  intro w_ hS_;go_simp
  try with_reducible rfl
 simp only[Act.put,ZPa,ZPc,ZPd,ZPe,ZPf];refine wTy 1 (.int .i64 no) rfl ?y2 R0 ?r2
 case y2=>
  intro w_ hS_;have c_:=cell_of_row _ _ 0 _ _ _ hS_;go_simp
  try with_reducible rfl
 simp only[Act.put,ZPa,ZPb,ZPc,ZPd,ZPe,ZPf];refine wTy 2 ?v3 rfl ?y3 R0 ?r3
 case y3=>
  intro w_ hS_;go_simp
  try with_reducible rfl
 simp only[Act.put,ZPa,ZPb,ZPc,ZPd,ZPe,ZPf]
 refine wpAnyH_one (k:=3) (fuel:=2) (by kernel_rfl) rfl (by kernel_rfl) (fun K_ hK=>?_)
 refine wp_call_ex (f:=43) (by kernel_rfl) (hC w3 hb (by omega)) (fun x w4 hX_=>?_)
 obtain⟨⟨xo,xn,xc,rfl⟩,hb4,hx⟩:=hX_;replace R0:=keep hb4 R0;replace R1:=keep hb4 R1;replace hb:=Below.after hb hb4;replace hz2:w.heap.size+1+1≤w4.heap.size:=Nat.le_trans hz2 hb4.size;clear hb4 hC;refine hK _ _ R0 ?_;simp only[Act.put,ZPa,ZPb,ZPc,ZPd,ZPe,ZPf];clear hK
 refine wpAnyH_one (k:=4) (fuel:=1) (by kernel_rfl) rfl (by kernel_rfl) (fun K_ hK=>?_)
 refine wp_call_ex (f:=96) (R:=fun v w'=>v=.agg #[.int .i64 no,.int .i64 2,(.func (.func 123) #[] #[.pointer (some ⟨w4.heap.size+1,0,none⟩)]:Value),(.func (.func 124) #[] #[.pointer (some ⟨w4.heap.size,0,none⟩),.pointer (some ⟨w4.heap.size+1,0,none⟩)]:Value),(.func (.func 125) #[] #[.pointer (some ⟨w4.heap.size+1,0,none⟩)]:Value)]∧Below w4.heap.size w4 w'∧(∃T,w'.heap[w4.heap.size]? =some (.cells #[.int .i64 no] T (0,0)))∧(∃T,w'.heap[w4.heap.size+1]? =some (.cells #[.slice xo xn xc] T (0,0)))) (by kernel_rfl) ((a_inner no xo xn xc w4).mono fun e w' h=>⟨_,h.1,rfl,h.2⟩) (fun v_ w5 hX_=>?_)
 obtain⟨rfl,hb5,⟨T0,b0⟩,⟨T1,b1⟩⟩:=hX_;replace R0:=keep hb5 R0;replace R1:=keep hb5 R1;replace hx:=hR _ _ _ hx hb5;replace hb:=Below.after hb hb5;refine hK _ _ R0 ?_;simp only[Act.put,ZPa,ZPb,ZPc,ZPd,ZPe,ZPf];clear hK
 refine wpAnyH_one (k:=5) (fuel:=0) (by kernel_rfl) rfl (by kernel_rfl) (fun K_ hK=>?_)
 refine wp_store_row 114 _ _ rfl (w.heap.size+1) #[.int .i64 no,.int .i64 2,(.func (.func 123) #[] #[.pointer (some ⟨w4.heap.size+1,0,none⟩)]:Value),(.func (.func 124) #[] #[.pointer (some ⟨w4.heap.size,0,none⟩),.pointer (some ⟨w4.heap.size+1,0,none⟩)]:Value),(.func (.func 125) #[] #[.pointer (some ⟨w4.heap.size+1,0,none⟩)]:Value)] rfl rfl 114 _ R1 infoSt rfl (by simp[Value.oneCell']) ?_
 refine hK _ _ ((setRow_other w5 (w.heap.size+1) w.heap.size _ (by omega)).trans R0) ?_
 simp only[Act.put,ZPa,ZPb,ZPc];clear hK
 refine wpAnyH_done (by kernel_rfl) ?_ _
 go_wp2_with (fail)
 exact bodyPost_ret (v:=.agg #[.int .i64 no,.int .i64 2,(.func (.func 123) #[] #[.pointer (some ⟨w4.heap.size+1,0,none⟩)]:Value),(.func (.func 124) #[] #[.pointer (some ⟨w4.heap.size,0,none⟩),.pointer (some ⟨w4.heap.size+1,0,none⟩)]:Value),(.func (.func 125) #[] #[.pointer (some ⟨w4.heap.size+1,0,none⟩)]:Value)]) (results_cell_row Tryz.results70 _ _ (w.heap.size+1) _ #[.int .i64 no,.int .i64 2,(.func (.func 123) #[] #[.pointer (some ⟨w4.heap.size+1,0,none⟩)]:Value),(.func (.func 124) #[] #[.pointer (some ⟨w4.heap.size,0,none⟩),.pointer (some ⟨w4.heap.size+1,0,none⟩)]:Value),(.func (.func 125) #[] #[.pointer (some ⟨w4.heap.size+1,0,none⟩)]:Value)] _ _ rfl (setRow_heap _ _ _ _ _ _ R1) Tryz.underlying114 rfl infoSt) rfl ⟨w4.heap.size,_,w5,hz2,rfl,below_setRow hb (by omega) _,⟨T0,(setRow_other _ _ _ _ (by omega)).trans b0⟩,⟨T1,(setRow_other _ _ _ _ (by omega)).trans b1⟩,hx,hb,rfl⟩
theorem a_ready_lst (R:Value→World→Prop) (hR:∀v V V',R v V→Below V.heap.size V V'→R v V') (no l mo:Int) (so:Option Addr) (sn sc:Nat) (w:World)
 (hC:∀V,Below w.heap.size w V→w.heap.size+1+1≤V.heap.size→Calls Tryz.prog 43 #[.slice so sn sc] V fun e w'=>∃v,e=.returned v∧(∃xo xn xc,v=.slice xo xn xc)∧Below V.heap.size V w'∧R v w'):
 Calls Tryz.prog 70 #[.agg #[.int .i64 no,.iface 190 (.agg #[.int .u64 l,.int .u64 mo,.slice so sn sc])]] w fun e w'=>∃(n:Nat) (x:Value) (w4:World),w.heap.size+1+1≤n∧e=.returned (.agg #[.int .i64 no,.int .i64 2,(.func (.func 127) #[] #[.pointer (some ⟨n,0,none⟩),.pointer (some ⟨n+1,0,none⟩),.pointer (some ⟨n+1+1,0,none⟩)]:Value),(.func (.func 129) #[] #[.pointer (some ⟨n,0,none⟩),.pointer (some ⟨n+1+1,0,none⟩)]:Value),(.func (.func 131) #[] #[.pointer (some ⟨n+1,0,none⟩),.pointer (some ⟨n+1+1,0,none⟩)]:Value)])∧Below w.heap.size w w'∧Bx w' n #[.int .i64 no]∧Bx w' (n+1) #[.int .u64 l,.int .u64 mo,.slice so sn sc]∧Bx w' (n+1+1) #[x]∧R x w4∧Below w.heap.size w w4∧w'=w4.setRow (w.heap.size+1) #[.int .i64 no,.int .i64 2,(.func (.func 127) #[] #[.pointer (some ⟨n,0,none⟩),.pointer (some ⟨n+1,0,none⟩),.pointer (some ⟨n+1+1,0,none⟩)]:Value),(.func (.func 129) #[] #[.pointer (some ⟨n,0,none⟩),.pointer (some ⟨n+1+1,0,none⟩)]:Value),(.func (.func 131) #[] #[.pointer (some ⟨n+1,0,none⟩),.pointer (some ⟨n+1+1,0,none⟩)]:Value)]:=by
 have R0:=xp3_0 w (.cells #[.int .i64 no,.iface 190 (.agg #[.int .u64 l,.int .u64 mo,.slice so sn sc])] 138) (.cells #[.int .i64 0,.int .i64 0,.nilFunc,.nilFunc,.nilFunc] 114) (.cells #[.int .u64 l,.int .u64 mo,.slice so sn sc] 190);have R1:=xp3_1 w (.cells #[.int .i64 no,.iface 190 (.agg #[.int .u64 l,.int .u64 mo,.slice so sn sc])] 138) (.cells #[.int .i64 0,.int .i64 0,.nilFunc,.nilFunc,.nilFunc] 114) (.cells #[.int .u64 l,.int .u64 mo,.slice so sn sc] 190);have R2:=xp3_2 w (.cells #[.int .i64 no,.iface 190 (.agg #[.int .u64 l,.int .u64 mo,.slice so sn sc])] 138) (.cells #[.int .i64 0,.int .i64 0,.nilFunc,.nilFunc,.nilFunc] 114) (.cells #[.int .u64 l,.int .u64 mo,.slice so sn sc] 190);have hb:=xb3 w (.cells #[.int .i64 no,.iface 190 (.agg #[.int .u64 l,.int .u64 mo,.slice so sn sc])] 138) (.cells #[.int .i64 0,.int .i64 0,.nilFunc,.nilFunc,.nilFunc] 114) (.cells #[.int .u64 l,.int .u64 mo,.slice so sn sc] 190)
 have hz:(((w.alloc (.cells #[.int .i64 no,.iface 190 (.agg #[.int .u64 l,.int .u64 mo,.slice so sn sc])] 138)).alloc (.cells #[.int .i64 0,.int .i64 0,.nilFunc,.nilFunc,.nilFunc] 114)).alloc (.cells #[.int .u64 l,.int .u64 mo,.slice so sn sc] 190)).heap.size=w.heap.size+1+1+1:=by simp
 have t0:=ta_lists_numbers (.agg #[.int .u64 l,.int .u64 mo,.slice so sn sc]);have t1:=ta_lists_floats (.agg #[.int .u64 l,.int .u64 mo,.slice so sn sc]);have t2:=ta_lists_octets (.agg #[.int .u64 l,.int .u64 mo,.slice so sn sc]);have t3:=ta_lists_message (.agg #[.int .u64 l,.int .u64 mo,.slice so sn sc]);have t4:=ta_lists (.agg #[.int .u64 l,.int .u64 mo,.slice so sn sc]);have A0:=hide R0;have A1:=hide R1;have A2:=hide hb;have A3:=hide hz;have A4:=hide R2;clear R0 R1 R2 hb hz
 go_enter Tryz.func70,Tryz.ntmps70
 go_wp2_with (fail)
 generalize (((w.alloc (.cells #[.int .i64 no,.iface 190 (.agg #[.int .u64 l,.int .u64 mo,.slice so sn sc])] 138)).alloc (.cells #[.int .i64 0,.int .i64 0,.nilFunc,.nilFunc,.nilFunc] 114)).alloc (.cells #[.int .u64 l,.int .u64 mo,.slice so sn sc] 190))=w2 at *
 have R0:=A0.out;have R1:=A1.out;have R2:=A4.out;have hb:=A2.out;have hz:=A3.out;clear A0 A1 A2 A3 A4 t0 t1 t2 t3 t4
 refine wp_region_held (S:=fun W=>W.heap[w.heap.size]? =some (.cells #[.int .i64 no,.iface 190 (.agg #[.int .u64 l,.int .u64 mo,.slice so sn sc])] 138 (0,0))∧W.heap[w.heap.size+1+1]? =some (.cells #[.int .u64 l,.int .u64 mo,.slice so sn sc] 190 (0,0))) (by kernel_rfl) ?_
 change wpAnyH _ _ _ _ _ _ _ _ (World.drew _)
 have hbd:Below w2.heap.size w2 w2.drew:=below_drN (Below.refl _ _) 1;replace R0:=keep hbd R0;replace R1:=keep hbd R1;replace R2:=keep hbd R2;replace hb:=Below.after hb hbd;have hz2:w.heap.size+1+1+1≤w2.drew.heap.size:=Nat.le_trans (Nat.le_of_eq hz.symm) hbd.size;clear hbd hz
 generalize w2.drew=w3 at *
 refine wTy 0 ?v4 rfl ?y4 ⟨R0,R2⟩ ?r4
 case y4=>
  intro w_ hS_;go_simp
  try with_reducible rfl
 simp only[Act.put,ZPa,ZPc,ZPd,ZPe,ZPf];refine wTy 1 (.int .i64 no) rfl ?y5 ⟨R0,R2⟩ ?r5
 case y5=>
  intro w_ hS_;have c_:=cell_of_row _ _ 0 _ _ _ hS_.1;go_simp
  try with_reducible rfl
 simp only[Act.put,ZPa,ZPb,ZPc,ZPd,ZPe,ZPf];refine wTy 2 (.agg #[.int .u64 l,.int .u64 mo,.slice so sn sc]) rfl ?y6 ⟨R0,R2⟩ ?r6
 case y6=>
  intro w_ hS_;have c0_:=cell_of_row _ _ 0 _ _ _ hS_.2;have c1_:=cell_of_row _ _ 1 _ _ _ hS_.2;have c2_:=cell_of_row _ _ 2 _ _ _ hS_.2;go_simp
  try with_reducible rfl
 simp only[Act.put,ZPa,ZPb,ZPc,ZPd,ZPe,ZPf];refine wTy 3 ?v7 rfl ?y7 ⟨R0,R2⟩ ?r7
 case y7=>
  intro w_ hS_;go_simp
  try with_reducible rfl
 simp only[Act.put,ZPa,ZPb,ZPc,ZPd,ZPe,ZPf];refine wTy 4 (.slice so sn sc) rfl ?y8 ⟨R0,R2⟩ ?r8
 case y8=>
  intro w_ hS_;have c0_:=cell_of_row _ _ 0 _ _ _ hS_.2;have c1_:=cell_of_row _ _ 1 _ _ _ hS_.2;have c2_:=cell_of_row _ _ 2 _ _ _ hS_.2;go_simp
  try with_reducible rfl
 simp only[Act.put,ZPa,ZPb,ZPc,ZPd,ZPe,ZPf]
 refine wpAnyH_one (k:=5) (fuel:=2) (by kernel_rfl) rfl (by kernel_rfl) (fun K_ hK=>?_)
 refine wp_call_ex (f:=43) (by kernel_rfl) (hC w3 hb (by omega)) (fun x w4 hX_=>?_)
 obtain⟨⟨xo,xn,xc,rfl⟩,hb4,hx⟩:=hX_;replace R0:=keep hb4 R0;replace R1:=keep hb4 R1;replace R2:=keep hb4 R2;replace hb:=Below.after hb hb4;replace hz2:w.heap.size+1+1+1≤w4.heap.size:=Nat.le_trans hz2 hb4.size;clear hb4 hC;refine hK _ _ ⟨R0,R2⟩ ?_;simp only[Act.put,ZPa,ZPb,ZPc,ZPd,ZPe,ZPf];clear hK
 refine wpAnyH_one (k:=6) (fuel:=1) (by kernel_rfl) rfl (by kernel_rfl) (fun K_ hK=>?_)
 refine wp_call_ex (f:=97) (R:=fun v w'=>v=.agg #[.int .i64 no,.int .i64 2,(.func (.func 127) #[] #[.pointer (some ⟨w4.heap.size,0,none⟩),.pointer (some ⟨w4.heap.size+1,0,none⟩),.pointer (some ⟨w4.heap.size+1+1,0,none⟩)]:Value),(.func (.func 129) #[] #[.pointer (some ⟨w4.heap.size,0,none⟩),.pointer (some ⟨w4.heap.size+1+1,0,none⟩)]:Value),(.func (.func 131) #[] #[.pointer (some ⟨w4.heap.size+1,0,none⟩),.pointer (some ⟨w4.heap.size+1+1,0,none⟩)]:Value)]∧Below w4.heap.size w4 w'∧(∃T,w'.heap[w4.heap.size]? =some (.cells #[.int .i64 no] T (0,0)))∧(∃T,w'.heap[w4.heap.size+1]? =some (.cells #[.int .u64 l,.int .u64 mo,.slice so sn sc] T (0,0)))∧(∃T,w'.heap[w4.heap.size+1+1]? =some (.cells #[.slice xo xn xc] T (0,0)))) (by kernel_rfl) ((a_listed no l mo so sn sc xo xn xc w4).mono fun e w' h=>⟨_,h.1,rfl,h.2⟩) (fun v_ w5 hX_=>?_)
 obtain⟨rfl,hb5,⟨T0,b0⟩,⟨T1,b1⟩,⟨T2,b2⟩⟩:=hX_;replace R0:=keep hb5 R0;replace R1:=keep hb5 R1;replace R2:=keep hb5 R2;replace hx:=hR _ _ _ hx hb5;replace hb:=Below.after hb hb5;refine hK _ _ ⟨R0,R2⟩ ?_;simp only[Act.put,ZPa,ZPb,ZPc,ZPd,ZPe,ZPf];clear hK
 refine wpAnyH_one (k:=7) (fuel:=0) (by kernel_rfl) rfl (by kernel_rfl) (fun K_ hK=>?_)
 refine wp_store_row 114 _ _ rfl (w.heap.size+1) #[.int .i64 no,.int .i64 2,(.func (.func 127) #[] #[.pointer (some ⟨w4.heap.size,0,none⟩),.pointer (some ⟨w4.heap.size+1,0,none⟩),.pointer (some ⟨w4.heap.size+1+1,0,none⟩)]:Value),(.func (.func 129) #[] #[.pointer (some ⟨w4.heap.size,0,none⟩),.pointer (some ⟨w4.heap.size+1+1,0,none⟩)]:Value),(.func (.func 131) #[] #[.pointer (some ⟨w4.heap.size+1,0,none⟩),.pointer (some ⟨w4.heap.size+1+1,0,none⟩)]:Value)] rfl rfl 114 _ R1 infoSt rfl (by simp[Value.oneCell']) ?_
 refine hK _ _ ⟨(setRow_other w5 (w.heap.size+1) w.heap.size _ (by omega)).trans R0,(setRow_other w5 (w.heap.size+1) (w.heap.size+1+1) _ (by omega)).trans R2⟩ ?_
 simp only[Act.put,ZPa,ZPb,ZPc];clear hK
 refine wpAnyH_done (by kernel_rfl) ?_ _
 go_wp2_with (fail)
 exact bodyPost_ret (v:=.agg #[.int .i64 no,.int .i64 2,(.func (.func 127) #[] #[.pointer (some ⟨w4.heap.size,0,none⟩),.pointer (some ⟨w4.heap.size+1,0,none⟩),.pointer (some ⟨w4.heap.size+1+1,0,none⟩)]:Value),(.func (.func 129) #[] #[.pointer (some ⟨w4.heap.size,0,none⟩),.pointer (some ⟨w4.heap.size+1+1,0,none⟩)]:Value),(.func (.func 131) #[] #[.pointer (some ⟨w4.heap.size+1,0,none⟩),.pointer (some ⟨w4.heap.size+1+1,0,none⟩)]:Value)]) (results_cell_row Tryz.results70 _ _ (w.heap.size+1) _ #[.int .i64 no,.int .i64 2,(.func (.func 127) #[] #[.pointer (some ⟨w4.heap.size,0,none⟩),.pointer (some ⟨w4.heap.size+1,0,none⟩),.pointer (some ⟨w4.heap.size+1+1,0,none⟩)]:Value),(.func (.func 129) #[] #[.pointer (some ⟨w4.heap.size,0,none⟩),.pointer (some ⟨w4.heap.size+1+1,0,none⟩)]:Value),(.func (.func 131) #[] #[.pointer (some ⟨w4.heap.size+1,0,none⟩),.pointer (some ⟨w4.heap.size+1+1,0,none⟩)]:Value)] _ _ rfl (setRow_heap _ _ _ _ _ _ R1) Tryz.underlying114 rfl infoSt) rfl ⟨w4.heap.size,_,w5,by omega,rfl,below_setRow hb (by omega) _,⟨T0,(setRow_other _ _ _ _ (by omega)).trans b0⟩,⟨T1,(setRow_other _ _ _ _ (by omega)).trans b1⟩,⟨T2,(setRow_other _ _ _ _ (by omega)).trans b2⟩,hx,hb,rfl⟩
end Go.Proofs.YtmmlkfkpblokiaaGreatDoor
