import Derived.Test.YtmmlkfkpblokiaaGreatDoorQdWq
import Derived.OrdersHeld
import Derived.Deep.RegionLaw
import Derived.Test.YtmmlkfkpblokiaaGreatDoorQdOpen
namespace Go.Proofs.YtmmlkfkpblokiaaGreatDoor
set_option maxRecDepth 100000
open Go Go.RowKit Go.Sort
attribute [local go_sem] setCell_drewN alloc_drewN
@[local go_sem] theorem run_store_flt {P:Program} {w:World} {a:Addr} {m:Mode} (k:FloatKind) (b:Nat):(store a (.float k b) m).run P w=stored P w a (.float k b) m:=run_store P w a _ m rfl
def Bx (W:World) (g:Nat) (c:Array Value):Prop:=∃T,W.heap[g]? =some (.cells c T (0,0))
theorem Bx.keep {W V:World} {g:Nat} {c:Array Value} (h:Bx W g c) (hb:Below W.heap.size W V):Bx V g c:=by
 obtain⟨T,h⟩:=h;exact⟨T,Go.Proofs.YtmmlkfkpblokiaaGreatDoor.keep hb h⟩
theorem Bx.other {W:World} {g k:Nat} {c:Array Value} {o:Nat} {v:Value} (h:Bx W g c) (hk:g≠k):Bx (W.setCell ⟨k,o,none⟩ v) g c:=by
 obtain⟨T,h⟩:=h;exact⟨T,(heap_setCell_other W _ g v hk).trans h⟩
theorem Bx.five {W:World} {g k:Nat} {c:Array Value} {o0 o1 o2 o3 o4:Nat} {v0 v1 v2 v3 v4:Value} (h:Bx W g c) (hk:g≠k):Bx (((((W.setCell ⟨k,o0,none⟩ v0).setCell ⟨k,o1,none⟩ v1).setCell ⟨k,o2,none⟩ v2).setCell ⟨k,o3,none⟩ v3).setCell ⟨k,o4,none⟩ v4) g c:=((((h.other hk).other hk).other hk).other hk).other hk
theorem ta_numbers (c:Value) (W:World):(Instr.typeAssert (.iface 177 c) 136 177 true).run Tryz.prog W=.ok (.tuple #[c,.bool true]) W:=by kernel_rfl
theorem ta_floats_numbers (c:Value) (W:World):(Instr.typeAssert (.iface 183 c) 136 177 true).run Tryz.prog W=.ok (.tuple #[.agg #[.int .i64 0,.int .u64 0,.int .u64 0],.bool false]) W:=by kernel_rfl
theorem ta_floats (c:Value) (W:World):(Instr.typeAssert (.iface 183 c) 136 183 true).run Tryz.prog W=.ok (.tuple #[c,.bool true]) W:=by kernel_rfl
theorem ta_octets_numbers (c:Value) (W:World):(Instr.typeAssert (.iface 186 c) 136 177 true).run Tryz.prog W=.ok (.tuple #[.agg #[.int .i64 0,.int .u64 0,.int .u64 0],.bool false]) W:=by kernel_rfl
theorem ta_octets_floats (c:Value) (W:World):(Instr.typeAssert (.iface 186 c) 136 183 true).run Tryz.prog W=.ok (.tuple #[.agg #[.float .f64 0],.bool false]) W:=by kernel_rfl
theorem ta_octets (c:Value) (W:World):(Instr.typeAssert (.iface 186 c) 136 186 true).run Tryz.prog W=.ok (.tuple #[c,.bool true]) W:=by kernel_rfl
theorem ta_message_numbers (c:Value) (W:World):(Instr.typeAssert (.iface 90 c) 136 177 true).run Tryz.prog W=.ok (.tuple #[.agg #[.int .i64 0,.int .u64 0,.int .u64 0],.bool false]) W:=by kernel_rfl
theorem ta_message_floats (c:Value) (W:World):(Instr.typeAssert (.iface 90 c) 136 183 true).run Tryz.prog W=.ok (.tuple #[.agg #[.float .f64 0],.bool false]) W:=by kernel_rfl
theorem ta_message_octets (c:Value) (W:World):(Instr.typeAssert (.iface 90 c) 136 186 true).run Tryz.prog W=.ok (.tuple #[.agg #[.int .u64 0,.int .u64 0,.bool false],.bool false]) W:=by kernel_rfl
theorem ta_message (c:Value) (W:World):(Instr.typeAssert (.iface 90 c) 136 90 true).run Tryz.prog W=.ok (.tuple #[c,.bool true]) W:=by kernel_rfl
theorem ta_lists_numbers (c:Value) (W:World):(Instr.typeAssert (.iface 190 c) 136 177 true).run Tryz.prog W=.ok (.tuple #[.agg #[.int .i64 0,.int .u64 0,.int .u64 0],.bool false]) W:=by kernel_rfl
theorem ta_lists_floats (c:Value) (W:World):(Instr.typeAssert (.iface 190 c) 136 183 true).run Tryz.prog W=.ok (.tuple #[.agg #[.float .f64 0],.bool false]) W:=by kernel_rfl
theorem ta_lists_octets (c:Value) (W:World):(Instr.typeAssert (.iface 190 c) 136 186 true).run Tryz.prog W=.ok (.tuple #[.agg #[.int .u64 0,.int .u64 0,.bool false],.bool false]) W:=by kernel_rfl
theorem ta_lists_message (c:Value) (W:World):(Instr.typeAssert (.iface 190 c) 136 90 true).run Tryz.prog W=.ok (.tuple #[.slice none 0 0,.bool false]) W:=by kernel_rfl
theorem ta_lists (c:Value) (W:World):(Instr.typeAssert (.iface 190 c) 136 190 true).run Tryz.prog W=.ok (.tuple #[c,.bool true]) W:=by kernel_rfl
set_option maxRecDepth 100000 in
set_option maxHeartbeats 4000000 in
theorem a_ready_num (no wt:Int) (l m:Int) (w:World):Calls Tryz.prog 70 #[.agg #[.int .i64 no,.iface 177 (.agg #[.int .i64 wt,.int .u64 l,.int .u64 m])]] w fun e w'=>e=.returned (.agg #[.int .i64 no,.int .i64 wt,(.func (.func 114) #[] #[.pointer (some ⟨(w.heap.size+1+1+1)+1+1+1+1,0,none⟩),.pointer (some ⟨(w.heap.size+1+1+1),0,none⟩),.pointer (some ⟨(w.heap.size+1+1+1)+1+1,0,none⟩)]:Value),(.func (.func 115) #[] #[.pointer (some ⟨(w.heap.size+1+1+1),0,none⟩),.pointer (some ⟨(w.heap.size+1+1+1)+1,0,none⟩)]:Value),(.func (.func 116) #[] #[.pointer (some ⟨(w.heap.size+1+1+1)+1+1,0,none⟩)]:Value)])∧Below w.heap.size w w'∧Bx w' (w.heap.size+1+1) #[.int .i64 wt,.int .u64 l,.int .u64 m]∧Bx w' (w.heap.size+1+1+1) #[.int .i64 no]∧Bx w' ((w.heap.size+1+1+1)+1) #[.int .i64 wt]∧Bx w' ((w.heap.size+1+1+1)+1+1) #[.func (.func 90) #[] #[.pointer (some ⟨w.heap.size+1+1,0,none⟩)]]∧Bx w' ((w.heap.size+1+1+1)+1+1+1+1) #[.bool ((wt:Int)==2)]:=by
 have hsz:(((w.alloc (.cells #[.int .i64 no,.iface 177 (.agg #[.int .i64 wt,.int .u64 l,.int .u64 m])] 138)).alloc (.cells #[.int .i64 0,.int .i64 0,.nilFunc,.nilFunc,.nilFunc] 114)).alloc (.cells #[.int .i64 wt,.int .u64 l,.int .u64 m] 177)).heap.size=(w.heap.size+1+1+1):=by simp
 have cP:=a_plain no wt 90 #[.pointer (some ⟨w.heap.size+1+1,0,none⟩)] (((w.alloc (.cells #[.int .i64 no,.iface 177 (.agg #[.int .i64 wt,.int .u64 l,.int .u64 m])] 138)).alloc (.cells #[.int .i64 0,.int .i64 0,.nilFunc,.nilFunc,.nilFunc] 114)).alloc (.cells #[.int .i64 wt,.int .u64 l,.int .u64 m] 177));rw[hsz] at cP;have q1:=xp3_1 w (.cells #[.int .i64 no,.iface 177 (.agg #[.int .i64 wt,.int .u64 l,.int .u64 m])] 138) (.cells #[.int .i64 0,.int .i64 0,.nilFunc,.nilFunc,.nilFunc] 114) (.cells #[.int .i64 wt,.int .u64 l,.int .u64 m] 177);have q2:=xp3_2 w (.cells #[.int .i64 no,.iface 177 (.agg #[.int .i64 wt,.int .u64 l,.int .u64 m])] 138) (.cells #[.int .i64 0,.int .i64 0,.nilFunc,.nilFunc,.nilFunc] 114) (.cells #[.int .i64 wt,.int .u64 l,.int .u64 m] 177);have hb:=xb3 w (.cells #[.int .i64 no,.iface 177 (.agg #[.int .i64 wt,.int .u64 l,.int .u64 m])] 138) (.cells #[.int .i64 0,.int .i64 0,.nilFunc,.nilFunc,.nilFunc] 114) (.cells #[.int .i64 wt,.int .u64 l,.int .u64 m] 177);have t0:=ta_numbers (.agg #[.int .i64 wt,.int .u64 l,.int .u64 m]);have A0:=hide hsz;have A1:=hide q1;have A2:=hide q2;have A3:=hide hb;clear hsz q1 q2 hb
 go_enter Tryz.func70,Tryz.ntmps70
 go_wp2_with (fail)
 generalize (((w.alloc (.cells #[.int .i64 no,.iface 177 (.agg #[.int .i64 wt,.int .u64 l,.int .u64 m])] 138)).alloc (.cells #[.int .i64 0,.int .i64 0,.nilFunc,.nilFunc,.nilFunc] 114)).alloc (.cells #[.int .i64 wt,.int .u64 l,.int .u64 m] 177))=w3 at *
 refine cP.mono ?_;rintro e_ w4 ⟨rfl,hb4,b0,b1,b2,b4⟩
 have hb4':Below w3.heap.size w3 w4:=by rw[A0.out];exact hb4
 have r1:=keep hb4' A1.out;have r2:=keep hb4' A2.out;have hB:=Below.after A3.out hb4';have n0:w4.cell? ⟨w.heap.size+1,0,none⟩=some (.int .i64 0):=cell_of_row _ _ _ _ _ _ r1;have n1:w4.cell? ⟨w.heap.size+1,1,none⟩=some (.int .i64 0):=cell_of_row _ _ _ _ _ _ r1;have n2:w4.cell? ⟨w.heap.size+1,2,none⟩=some .nilFunc:=cell_of_row _ _ _ _ _ _ r1;have n3:w4.cell? ⟨w.heap.size+1,3,none⟩=some .nilFunc:=cell_of_row _ _ _ _ _ _ r1;have n4:w4.cell? ⟨w.heap.size+1,4,none⟩=some .nilFunc:=cell_of_row _ _ _ _ _ _ r1
 have z0:w4.frozen? ⟨w.heap.size+1,0,none⟩=false:=by simp[World.frozen?,r1]
 have z1:w4.frozen? ⟨w.heap.size+1,1,none⟩=false:=by simp[World.frozen?,r1]
 have z2:w4.frozen? ⟨w.heap.size+1,2,none⟩=false:=by simp[World.frozen?,r1]
 have z3:w4.frozen? ⟨w.heap.size+1,3,none⟩=false:=by simp[World.frozen?,r1]
 have z4:w4.frozen? ⟨w.heap.size+1,4,none⟩=false:=by simp[World.frozen?,r1]
 have A4:=hide r1;have A5:=hide r2;have A6:=hide hB;have A7:=hide b0;have A8:=hide b1;have A9:=hide b2;have AA:=hide b4;clear r1 r2 hB b0 b1 b2 b4 hb4 hb4' cP A0 A1 A2 A3
 go_wp2_with (fail)
 have HR:=heap_setCell_same _ (w.heap.size+1) 4 _ _ ((.func (.func 116) #[] #[.pointer (some ⟨(w.heap.size+1+1+1)+1+1,0,none⟩)]:Value)) (heap_setCell_same _ (w.heap.size+1) 3 _ _ ((.func (.func 115) #[] #[.pointer (some ⟨(w.heap.size+1+1+1),0,none⟩),.pointer (some ⟨(w.heap.size+1+1+1)+1,0,none⟩)]:Value)) (heap_setCell_same _ (w.heap.size+1) 2 _ _ ((.func (.func 114) #[] #[.pointer (some ⟨(w.heap.size+1+1+1)+1+1+1+1,0,none⟩),.pointer (some ⟨(w.heap.size+1+1+1),0,none⟩),.pointer (some ⟨(w.heap.size+1+1+1)+1+1,0,none⟩)]:Value)) (heap_setCell_same _ (w.heap.size+1) 1 _ _ (.int .i64 wt) (heap_setCell_same w4 (w.heap.size+1) 0 _ _ (.int .i64 no) A4.out))))
 exact bodyPost_ret (v:=.agg #[.int .i64 no,.int .i64 wt,(.func (.func 114) #[] #[.pointer (some ⟨(w.heap.size+1+1+1)+1+1+1+1,0,none⟩),.pointer (some ⟨(w.heap.size+1+1+1),0,none⟩),.pointer (some ⟨(w.heap.size+1+1+1)+1+1,0,none⟩)]:Value),(.func (.func 115) #[] #[.pointer (some ⟨(w.heap.size+1+1+1),0,none⟩),.pointer (some ⟨(w.heap.size+1+1+1)+1,0,none⟩)]:Value),(.func (.func 116) #[] #[.pointer (some ⟨(w.heap.size+1+1+1)+1+1,0,none⟩)]:Value)]) (results_cell_row Tryz.results70 _ _ (w.heap.size+1) _ #[.int .i64 no,.int .i64 wt,(.func (.func 114) #[] #[.pointer (some ⟨(w.heap.size+1+1+1)+1+1+1+1,0,none⟩),.pointer (some ⟨(w.heap.size+1+1+1),0,none⟩),.pointer (some ⟨(w.heap.size+1+1+1)+1+1,0,none⟩)]:Value),(.func (.func 115) #[] #[.pointer (some ⟨(w.heap.size+1+1+1),0,none⟩),.pointer (some ⟨(w.heap.size+1+1+1)+1,0,none⟩)]:Value),(.func (.func 116) #[] #[.pointer (some ⟨(w.heap.size+1+1+1)+1+1,0,none⟩)]:Value)] _ _ rfl HR Tryz.underlying114 rfl infoSt) rfl ⟨rfl,(((((A6.out.setCell (by show w.heap.size≤w.heap.size+1;omega) _).setCell (by show w.heap.size≤w.heap.size+1;omega) _).setCell (by show w.heap.size≤w.heap.size+1;omega) _).setCell (by show w.heap.size≤w.heap.size+1;omega) _).setCell (by show w.heap.size≤w.heap.size+1;omega) _),
  Bx.five ⟨_,A5.out⟩ (by omega),Bx.five A7.out (by omega),Bx.five A8.out (by omega),Bx.five A9.out (by omega),Bx.five AA.out (by omega)⟩
set_option maxRecDepth 100000 in
set_option maxHeartbeats 4000000 in
theorem a_ready_flt (no:Int) (x:Nat) (w:World):Calls Tryz.prog 70 #[.agg #[.int .i64 no,.iface 183 (.agg #[.float .f64 x])]] w fun e w'=>e=.returned (.agg #[.int .i64 no,.int .i64 1,(.func (.func 114) #[] #[.pointer (some ⟨(w.heap.size+1+1+1)+1+1+1+1,0,none⟩),.pointer (some ⟨(w.heap.size+1+1+1),0,none⟩),.pointer (some ⟨(w.heap.size+1+1+1)+1+1,0,none⟩)]:Value),(.func (.func 115) #[] #[.pointer (some ⟨(w.heap.size+1+1+1),0,none⟩),.pointer (some ⟨(w.heap.size+1+1+1)+1,0,none⟩)]:Value),(.func (.func 116) #[] #[.pointer (some ⟨(w.heap.size+1+1+1)+1+1,0,none⟩)]:Value)])∧Below w.heap.size w w'∧Bx w' (w.heap.size+1+1) #[.float .f64 x]∧Bx w' (w.heap.size+1+1+1) #[.int .i64 no]∧Bx w' ((w.heap.size+1+1+1)+1) #[.int .i64 1]∧Bx w' ((w.heap.size+1+1+1)+1+1) #[.func (.func 92) #[] #[.pointer (some ⟨w.heap.size+1+1,0,none⟩)]]∧Bx w' ((w.heap.size+1+1+1)+1+1+1+1) #[.bool ((1:Int)==2)]:=by
 have hsz:(((w.alloc (.cells #[.int .i64 no,.iface 183 (.agg #[.float .f64 x])] 138)).alloc (.cells #[.int .i64 0,.int .i64 0,.nilFunc,.nilFunc,.nilFunc] 114)).alloc (.cells #[.float .f64 x] 183)).heap.size=(w.heap.size+1+1+1):=by simp
 have cP:=a_plain no 1 92 #[.pointer (some ⟨w.heap.size+1+1,0,none⟩)] (((w.alloc (.cells #[.int .i64 no,.iface 183 (.agg #[.float .f64 x])] 138)).alloc (.cells #[.int .i64 0,.int .i64 0,.nilFunc,.nilFunc,.nilFunc] 114)).alloc (.cells #[.float .f64 x] 183));rw[hsz] at cP;have q1:=xp3_1 w (.cells #[.int .i64 no,.iface 183 (.agg #[.float .f64 x])] 138) (.cells #[.int .i64 0,.int .i64 0,.nilFunc,.nilFunc,.nilFunc] 114) (.cells #[.float .f64 x] 183);have q2:=xp3_2 w (.cells #[.int .i64 no,.iface 183 (.agg #[.float .f64 x])] 138) (.cells #[.int .i64 0,.int .i64 0,.nilFunc,.nilFunc,.nilFunc] 114) (.cells #[.float .f64 x] 183);have hb:=xb3 w (.cells #[.int .i64 no,.iface 183 (.agg #[.float .f64 x])] 138) (.cells #[.int .i64 0,.int .i64 0,.nilFunc,.nilFunc,.nilFunc] 114) (.cells #[.float .f64 x] 183);have t0:=ta_floats_numbers (.agg #[.float .f64 x]);have t1:=ta_floats (.agg #[.float .f64 x]);have A0:=hide hsz;have A1:=hide q1;have A2:=hide q2;have A3:=hide hb;clear hsz q1 q2 hb
 go_enter Tryz.func70,Tryz.ntmps70
 go_wp2_with (fail)
 generalize (((w.alloc (.cells #[.int .i64 no,.iface 183 (.agg #[.float .f64 x])] 138)).alloc (.cells #[.int .i64 0,.int .i64 0,.nilFunc,.nilFunc,.nilFunc] 114)).alloc (.cells #[.float .f64 x] 183))=w3 at *
 refine cP.mono ?_;rintro e_ w4 ⟨rfl,hb4,b0,b1,b2,b4⟩
 have hb4':Below w3.heap.size w3 w4:=by rw[A0.out];exact hb4
 have r1:=keep hb4' A1.out;have r2:=keep hb4' A2.out;have hB:=Below.after A3.out hb4';have n0:w4.cell? ⟨w.heap.size+1,0,none⟩=some (.int .i64 0):=cell_of_row _ _ _ _ _ _ r1;have n1:w4.cell? ⟨w.heap.size+1,1,none⟩=some (.int .i64 0):=cell_of_row _ _ _ _ _ _ r1;have n2:w4.cell? ⟨w.heap.size+1,2,none⟩=some .nilFunc:=cell_of_row _ _ _ _ _ _ r1;have n3:w4.cell? ⟨w.heap.size+1,3,none⟩=some .nilFunc:=cell_of_row _ _ _ _ _ _ r1;have n4:w4.cell? ⟨w.heap.size+1,4,none⟩=some .nilFunc:=cell_of_row _ _ _ _ _ _ r1
 have z0:w4.frozen? ⟨w.heap.size+1,0,none⟩=false:=by simp[World.frozen?,r1]
 have z1:w4.frozen? ⟨w.heap.size+1,1,none⟩=false:=by simp[World.frozen?,r1]
 have z2:w4.frozen? ⟨w.heap.size+1,2,none⟩=false:=by simp[World.frozen?,r1]
 have z3:w4.frozen? ⟨w.heap.size+1,3,none⟩=false:=by simp[World.frozen?,r1]
 have z4:w4.frozen? ⟨w.heap.size+1,4,none⟩=false:=by simp[World.frozen?,r1]
 have A4:=hide r1;have A5:=hide r2;have A6:=hide hB;have A7:=hide b0;have A8:=hide b1;have A9:=hide b2;have AA:=hide b4;clear r1 r2 hB b0 b1 b2 b4 hb4 hb4' cP A0 A1 A2 A3
 go_wp2_with (fail)
 have HR:=heap_setCell_same _ (w.heap.size+1) 4 _ _ ((.func (.func 116) #[] #[.pointer (some ⟨(w.heap.size+1+1+1)+1+1,0,none⟩)]:Value)) (heap_setCell_same _ (w.heap.size+1) 3 _ _ ((.func (.func 115) #[] #[.pointer (some ⟨(w.heap.size+1+1+1),0,none⟩),.pointer (some ⟨(w.heap.size+1+1+1)+1,0,none⟩)]:Value)) (heap_setCell_same _ (w.heap.size+1) 2 _ _ ((.func (.func 114) #[] #[.pointer (some ⟨(w.heap.size+1+1+1)+1+1+1+1,0,none⟩),.pointer (some ⟨(w.heap.size+1+1+1),0,none⟩),.pointer (some ⟨(w.heap.size+1+1+1)+1+1,0,none⟩)]:Value)) (heap_setCell_same _ (w.heap.size+1) 1 _ _ (.int .i64 1) (heap_setCell_same w4 (w.heap.size+1) 0 _ _ (.int .i64 no) A4.out))))
 exact bodyPost_ret (v:=.agg #[.int .i64 no,.int .i64 1,(.func (.func 114) #[] #[.pointer (some ⟨(w.heap.size+1+1+1)+1+1+1+1,0,none⟩),.pointer (some ⟨(w.heap.size+1+1+1),0,none⟩),.pointer (some ⟨(w.heap.size+1+1+1)+1+1,0,none⟩)]:Value),(.func (.func 115) #[] #[.pointer (some ⟨(w.heap.size+1+1+1),0,none⟩),.pointer (some ⟨(w.heap.size+1+1+1)+1,0,none⟩)]:Value),(.func (.func 116) #[] #[.pointer (some ⟨(w.heap.size+1+1+1)+1+1,0,none⟩)]:Value)]) (results_cell_row Tryz.results70 _ _ (w.heap.size+1) _ #[.int .i64 no,.int .i64 1,(.func (.func 114) #[] #[.pointer (some ⟨(w.heap.size+1+1+1)+1+1+1+1,0,none⟩),.pointer (some ⟨(w.heap.size+1+1+1),0,none⟩),.pointer (some ⟨(w.heap.size+1+1+1)+1+1,0,none⟩)]:Value),(.func (.func 115) #[] #[.pointer (some ⟨(w.heap.size+1+1+1),0,none⟩),.pointer (some ⟨(w.heap.size+1+1+1)+1,0,none⟩)]:Value),(.func (.func 116) #[] #[.pointer (some ⟨(w.heap.size+1+1+1)+1+1,0,none⟩)]:Value)] _ _ rfl HR Tryz.underlying114 rfl infoSt) rfl ⟨rfl,(((((A6.out.setCell (by show w.heap.size≤w.heap.size+1;omega) _).setCell (by show w.heap.size≤w.heap.size+1;omega) _).setCell (by show w.heap.size≤w.heap.size+1;omega) _).setCell (by show w.heap.size≤w.heap.size+1;omega) _).setCell (by show w.heap.size≤w.heap.size+1;omega) _),
  Bx.five ⟨_,A5.out⟩ (by omega),Bx.five A7.out (by omega),Bx.five A8.out (by omega),Bx.five A9.out (by omega),Bx.five AA.out (by omega)⟩
set_option maxRecDepth 100000 in
set_option maxHeartbeats 4000000 in
theorem a_ready_oct (no:Int) (l m:Int) (b:Bool) (w:World):Calls Tryz.prog 70 #[.agg #[.int .i64 no,.iface 186 (.agg #[.int .u64 l,.int .u64 m,.bool b])]] w fun e w'=>e=.returned (.agg #[.int .i64 no,.int .i64 2,(.func (.func 114) #[] #[.pointer (some ⟨(w.heap.size+1+1+1)+1+1+1+1,0,none⟩),.pointer (some ⟨(w.heap.size+1+1+1),0,none⟩),.pointer (some ⟨(w.heap.size+1+1+1)+1+1,0,none⟩)]:Value),(.func (.func 115) #[] #[.pointer (some ⟨(w.heap.size+1+1+1),0,none⟩),.pointer (some ⟨(w.heap.size+1+1+1)+1,0,none⟩)]:Value),(.func (.func 116) #[] #[.pointer (some ⟨(w.heap.size+1+1+1)+1+1,0,none⟩)]:Value)])∧Below w.heap.size w w'∧Bx w' (w.heap.size+1+1) #[.int .u64 l,.int .u64 m,.bool b]∧Bx w' (w.heap.size+1+1+1) #[.int .i64 no]∧Bx w' ((w.heap.size+1+1+1)+1) #[.int .i64 2]∧Bx w' ((w.heap.size+1+1+1)+1+1) #[.func (.func 94) #[] #[.pointer (some ⟨w.heap.size+1+1,0,none⟩)]]∧Bx w' ((w.heap.size+1+1+1)+1+1+1+1) #[.bool ((2:Int)==2)]:=by
 have hsz:(((w.alloc (.cells #[.int .i64 no,.iface 186 (.agg #[.int .u64 l,.int .u64 m,.bool b])] 138)).alloc (.cells #[.int .i64 0,.int .i64 0,.nilFunc,.nilFunc,.nilFunc] 114)).alloc (.cells #[.int .u64 l,.int .u64 m,.bool b] 186)).heap.size=(w.heap.size+1+1+1):=by simp
 have cP:=a_plain no 2 94 #[.pointer (some ⟨w.heap.size+1+1,0,none⟩)] (((w.alloc (.cells #[.int .i64 no,.iface 186 (.agg #[.int .u64 l,.int .u64 m,.bool b])] 138)).alloc (.cells #[.int .i64 0,.int .i64 0,.nilFunc,.nilFunc,.nilFunc] 114)).alloc (.cells #[.int .u64 l,.int .u64 m,.bool b] 186));rw[hsz] at cP;have q1:=xp3_1 w (.cells #[.int .i64 no,.iface 186 (.agg #[.int .u64 l,.int .u64 m,.bool b])] 138) (.cells #[.int .i64 0,.int .i64 0,.nilFunc,.nilFunc,.nilFunc] 114) (.cells #[.int .u64 l,.int .u64 m,.bool b] 186);have q2:=xp3_2 w (.cells #[.int .i64 no,.iface 186 (.agg #[.int .u64 l,.int .u64 m,.bool b])] 138) (.cells #[.int .i64 0,.int .i64 0,.nilFunc,.nilFunc,.nilFunc] 114) (.cells #[.int .u64 l,.int .u64 m,.bool b] 186);have hb:=xb3 w (.cells #[.int .i64 no,.iface 186 (.agg #[.int .u64 l,.int .u64 m,.bool b])] 138) (.cells #[.int .i64 0,.int .i64 0,.nilFunc,.nilFunc,.nilFunc] 114) (.cells #[.int .u64 l,.int .u64 m,.bool b] 186);have t0:=ta_octets_numbers (.agg #[.int .u64 l,.int .u64 m,.bool b]);have t1:=ta_octets_floats (.agg #[.int .u64 l,.int .u64 m,.bool b]);have t2:=ta_octets (.agg #[.int .u64 l,.int .u64 m,.bool b]);have A0:=hide hsz;have A1:=hide q1;have A2:=hide q2;have A3:=hide hb;clear hsz q1 q2 hb
 go_enter Tryz.func70,Tryz.ntmps70
 go_wp2_with (fail)
 generalize (((w.alloc (.cells #[.int .i64 no,.iface 186 (.agg #[.int .u64 l,.int .u64 m,.bool b])] 138)).alloc (.cells #[.int .i64 0,.int .i64 0,.nilFunc,.nilFunc,.nilFunc] 114)).alloc (.cells #[.int .u64 l,.int .u64 m,.bool b] 186))=w3 at *
 refine cP.mono ?_;rintro e_ w4 ⟨rfl,hb4,b0,b1,b2,b4⟩
 have hb4':Below w3.heap.size w3 w4:=by rw[A0.out];exact hb4
 have r1:=keep hb4' A1.out;have r2:=keep hb4' A2.out;have hB:=Below.after A3.out hb4';have n0:w4.cell? ⟨w.heap.size+1,0,none⟩=some (.int .i64 0):=cell_of_row _ _ _ _ _ _ r1;have n1:w4.cell? ⟨w.heap.size+1,1,none⟩=some (.int .i64 0):=cell_of_row _ _ _ _ _ _ r1;have n2:w4.cell? ⟨w.heap.size+1,2,none⟩=some .nilFunc:=cell_of_row _ _ _ _ _ _ r1;have n3:w4.cell? ⟨w.heap.size+1,3,none⟩=some .nilFunc:=cell_of_row _ _ _ _ _ _ r1;have n4:w4.cell? ⟨w.heap.size+1,4,none⟩=some .nilFunc:=cell_of_row _ _ _ _ _ _ r1
 have z0:w4.frozen? ⟨w.heap.size+1,0,none⟩=false:=by simp[World.frozen?,r1]
 have z1:w4.frozen? ⟨w.heap.size+1,1,none⟩=false:=by simp[World.frozen?,r1]
 have z2:w4.frozen? ⟨w.heap.size+1,2,none⟩=false:=by simp[World.frozen?,r1]
 have z3:w4.frozen? ⟨w.heap.size+1,3,none⟩=false:=by simp[World.frozen?,r1]
 have z4:w4.frozen? ⟨w.heap.size+1,4,none⟩=false:=by simp[World.frozen?,r1]
 have A4:=hide r1;have A5:=hide r2;have A6:=hide hB;have A7:=hide b0;have A8:=hide b1;have A9:=hide b2;have AA:=hide b4;clear r1 r2 hB b0 b1 b2 b4 hb4 hb4' cP A0 A1 A2 A3
 go_wp2_with (fail)
 have HR:=heap_setCell_same _ (w.heap.size+1) 4 _ _ ((.func (.func 116) #[] #[.pointer (some ⟨(w.heap.size+1+1+1)+1+1,0,none⟩)]:Value)) (heap_setCell_same _ (w.heap.size+1) 3 _ _ ((.func (.func 115) #[] #[.pointer (some ⟨(w.heap.size+1+1+1),0,none⟩),.pointer (some ⟨(w.heap.size+1+1+1)+1,0,none⟩)]:Value)) (heap_setCell_same _ (w.heap.size+1) 2 _ _ ((.func (.func 114) #[] #[.pointer (some ⟨(w.heap.size+1+1+1)+1+1+1+1,0,none⟩),.pointer (some ⟨(w.heap.size+1+1+1),0,none⟩),.pointer (some ⟨(w.heap.size+1+1+1)+1+1,0,none⟩)]:Value)) (heap_setCell_same _ (w.heap.size+1) 1 _ _ (.int .i64 2) (heap_setCell_same w4 (w.heap.size+1) 0 _ _ (.int .i64 no) A4.out))))
 exact bodyPost_ret (v:=.agg #[.int .i64 no,.int .i64 2,(.func (.func 114) #[] #[.pointer (some ⟨(w.heap.size+1+1+1)+1+1+1+1,0,none⟩),.pointer (some ⟨(w.heap.size+1+1+1),0,none⟩),.pointer (some ⟨(w.heap.size+1+1+1)+1+1,0,none⟩)]:Value),(.func (.func 115) #[] #[.pointer (some ⟨(w.heap.size+1+1+1),0,none⟩),.pointer (some ⟨(w.heap.size+1+1+1)+1,0,none⟩)]:Value),(.func (.func 116) #[] #[.pointer (some ⟨(w.heap.size+1+1+1)+1+1,0,none⟩)]:Value)]) (results_cell_row Tryz.results70 _ _ (w.heap.size+1) _ #[.int .i64 no,.int .i64 2,(.func (.func 114) #[] #[.pointer (some ⟨(w.heap.size+1+1+1)+1+1+1+1,0,none⟩),.pointer (some ⟨(w.heap.size+1+1+1),0,none⟩),.pointer (some ⟨(w.heap.size+1+1+1)+1+1,0,none⟩)]:Value),(.func (.func 115) #[] #[.pointer (some ⟨(w.heap.size+1+1+1),0,none⟩),.pointer (some ⟨(w.heap.size+1+1+1)+1,0,none⟩)]:Value),(.func (.func 116) #[] #[.pointer (some ⟨(w.heap.size+1+1+1)+1+1,0,none⟩)]:Value)] _ _ rfl HR Tryz.underlying114 rfl infoSt) rfl ⟨rfl,(((((A6.out.setCell (by show w.heap.size≤w.heap.size+1;omega) _).setCell (by show w.heap.size≤w.heap.size+1;omega) _).setCell (by show w.heap.size≤w.heap.size+1;omega) _).setCell (by show w.heap.size≤w.heap.size+1;omega) _).setCell (by show w.heap.size≤w.heap.size+1;omega) _),
  Bx.five ⟨_,A5.out⟩ (by omega),Bx.five A7.out (by omega),Bx.five A8.out (by omega),Bx.five A9.out (by omega),Bx.five AA.out (by omega)⟩
end Go.Proofs.YtmmlkfkpblokiaaGreatDoor
namespace Go.Proofs.YtmmlkfkpblokiaaGreatDoor
set_option maxRecDepth 100000
open Go Go.RowKit Go.Sort
attribute [local go_sem] setCell_drewN alloc_drewN
set_option maxRecDepth 100000 in
set_option maxHeartbeats 4000000 in
theorem a_ready_msg (R:Value→World→Prop) (hR:∀v V V',R v V→Below V.heap.size V V'→R v V') (no:Int) (so:Option Addr) (sn sc:Nat) (w:World)
 (hC:∀V,Below w.heap.size w V→w.heap.size+1+1≤V.heap.size→Calls Tryz.prog 43 #[.slice so sn sc] V fun e w'=>∃v,e=.returned v∧(∃xo xn xc,v=.slice xo xn xc)∧Below V.heap.size V w'∧R v w'):
 Calls Tryz.prog 70 #[.agg #[.int .i64 no,.iface 90 (.slice so sn sc)]] w fun e w'=>∃(n:Nat) (x:Value) (w4:World),w.heap.size+1+1≤n∧e=.returned (.agg #[.int .i64 no,.int .i64 2,(.func (.func 123) #[] #[.pointer (some ⟨n+1,0,none⟩)]:Value),(.func (.func 124) #[] #[.pointer (some ⟨n,0,none⟩),.pointer (some ⟨n+1,0,none⟩)]:Value),(.func (.func 125) #[] #[.pointer (some ⟨n+1,0,none⟩)]:Value)])∧Below w.heap.size w w'∧Bx w' n #[.int .i64 no]∧Bx w' (n+1) #[x]∧R x w4∧Below w.heap.size w w4∧w'=w4.setRow (w.heap.size+1) #[.int .i64 no,.int .i64 2,(.func (.func 123) #[] #[.pointer (some ⟨n+1,0,none⟩)]:Value),(.func (.func 124) #[] #[.pointer (some ⟨n,0,none⟩),.pointer (some ⟨n+1,0,none⟩)]:Value),(.func (.func 125) #[] #[.pointer (some ⟨n+1,0,none⟩)]:Value)]:=by
 have R0:=hp2_0 w (.cells #[.int .i64 no,.iface 90 (.slice so sn sc)] 138) (.cells #[.int .i64 0,.int .i64 0,.nilFunc,.nilFunc,.nilFunc] 114);have R1:=hp2_1 w (.cells #[.int .i64 no,.iface 90 (.slice so sn sc)] 138) (.cells #[.int .i64 0,.int .i64 0,.nilFunc,.nilFunc,.nilFunc] 114)
 have hb:Below w.heap.size w ((w.alloc (.cells #[.int .i64 no,.iface 90 (.slice so sn sc)] 138)).alloc (.cells #[.int .i64 0,.int .i64 0,.nilFunc,.nilFunc,.nilFunc] 114)):=((Below.refl _ _).alloc (Nat.le_refl _) _).alloc (by simp) _
 have hz:((w.alloc (.cells #[.int .i64 no,.iface 90 (.slice so sn sc)] 138)).alloc (.cells #[.int .i64 0,.int .i64 0,.nilFunc,.nilFunc,.nilFunc] 114)).heap.size=w.heap.size+1+1:=by simp
 have c1:((w.alloc (.cells #[.int .i64 no,.iface 90 (.slice so sn sc)] 138)).alloc (.cells #[.int .i64 0,.int .i64 0,.nilFunc,.nilFunc,.nilFunc] 114)).cell? ⟨w.heap.size,1,none⟩=some (.iface 90 (.slice so sn sc)):=cell_of_row _ _ _ _ _ _ R0;have t0:=ta_message_numbers (.slice so sn sc);have t1:=ta_message_floats (.slice so sn sc);have t2:=ta_message_octets (.slice so sn sc);have t3:=ta_message (.slice so sn sc);have A0:=hide R0;have A1:=hide R1;have A2:=hide hb;have A3:=hide hz;clear R0 R1 hb hz
 go_enter Tryz.func70,Tryz.ntmps70
 go_wp2_with (fail)
 generalize ((w.alloc (.cells #[.int .i64 no,.iface 90 (.slice so sn sc)] 138)).alloc (.cells #[.int .i64 0,.int .i64 0,.nilFunc,.nilFunc,.nilFunc] 114))=w2 at *
 have R0:=A0.out;have R1:=A1.out;have hb:=A2.out;have hz:=A3.out;clear A0 A1 A2 A3 c1 t0 t1 t2 t3
 refine wp_region_held (S:=fun W=>W.heap[w.heap.size]? =some (.cells #[.int .i64 no,.iface 90 (.slice so sn sc)] 138 (0,0))) (by kernel_rfl) ?_
 change wpAnyH _ _ _ _ _ _ _ _ (World.drew _)
 have hbd:Below w2.heap.size w2 w2.drew:=below_drN (Below.refl _ _) 1;replace R0:=keep hbd R0;replace R1:=keep hbd R1;replace hb:=Below.after hb hbd;have hz2:w.heap.size+1+1≤w2.drew.heap.size:=Nat.le_trans (Nat.le_of_eq hz.symm) hbd.size;clear hbd hz
 generalize w2.drew=w3 at *
 refine wpAnyH_take (i:=0) (v:=?v1) rfl (by kernel_rfl) (by kernel_rfl) (by kernel_rfl) (fun _ _ _ h=>h) (Or.inl ⟨by rfl,?y1⟩) R0 ?r1
 case y1=>
  intro w_ hS_;go_simp
  try with_reducible rfl
 simp only[Act.put,List.getElem_toArray,List.getElem_cons_zero,List.setIfInBounds_toArray,List.set_cons_succ,List.set_cons_zero]
 refine wpAnyH_take (i:=1) (v:=.int .i64 no) rfl (by kernel_rfl) (by kernel_rfl) (by kernel_rfl) (fun _ _ _ h=>h) (Or.inl ⟨by rfl,?y2⟩) R0 ?r2
 case y2=>
  intro w_ hS_;have c_:=cell_of_row _ _ 0 _ _ _ hS_;go_simp
  try with_reducible rfl
 simp only[Act.put,List.getElem_toArray,List.getElem_cons_succ,List.getElem_cons_zero,List.setIfInBounds_toArray,List.set_cons_succ,List.set_cons_zero]
 refine wpAnyH_take (i:=2) (v:=?v3) rfl (by kernel_rfl) (by kernel_rfl) (by kernel_rfl) (fun _ _ _ h=>h) (Or.inl ⟨by rfl,?y3⟩) R0 ?r3
 case y3=>
  intro w_ hS_;go_simp
  try with_reducible rfl
 simp only[Act.put,List.getElem_toArray,List.getElem_cons_succ,List.getElem_cons_zero,List.setIfInBounds_toArray,List.set_cons_succ,List.set_cons_zero]
 refine wpAnyH_one (k:=3) (fuel:=2) (by kernel_rfl) rfl (by kernel_rfl) (fun K_ hK=>?_)
 refine wp_call_ex (f:=43) (by kernel_rfl) (hC w3 hb (by omega)) (fun x w4 hX_=>?_)
 obtain⟨⟨xo,xn,xc,rfl⟩,hb4,hx⟩:=hX_;replace R0:=keep hb4 R0;replace R1:=keep hb4 R1;replace hb:=Below.after hb hb4;replace hz2:w.heap.size+1+1≤w4.heap.size:=Nat.le_trans hz2 hb4.size;clear hb4 hC;refine hK _ _ R0 ?_;simp only[Act.put,List.getElem_toArray,List.getElem_cons_succ,List.getElem_cons_zero,List.setIfInBounds_toArray,List.set_cons_succ,List.set_cons_zero];clear hK
 refine wpAnyH_one (k:=4) (fuel:=1) (by kernel_rfl) rfl (by kernel_rfl) (fun K_ hK=>?_)
 refine wp_call_ex (f:=96) (R:=fun v w'=>v=.agg #[.int .i64 no,.int .i64 2,(.func (.func 123) #[] #[.pointer (some ⟨w4.heap.size+1,0,none⟩)]:Value),(.func (.func 124) #[] #[.pointer (some ⟨w4.heap.size,0,none⟩),.pointer (some ⟨w4.heap.size+1,0,none⟩)]:Value),(.func (.func 125) #[] #[.pointer (some ⟨w4.heap.size+1,0,none⟩)]:Value)]∧Below w4.heap.size w4 w'∧(∃T,w'.heap[w4.heap.size]? =some (.cells #[.int .i64 no] T (0,0)))∧(∃T,w'.heap[w4.heap.size+1]? =some (.cells #[.slice xo xn xc] T (0,0)))) (by kernel_rfl) ((a_inner no xo xn xc w4).mono fun e w' h=>⟨_,h.1,rfl,h.2⟩) (fun v_ w5 hX_=>?_)
 obtain⟨rfl,hb5,⟨T0,b0⟩,⟨T1,b1⟩⟩:=hX_;replace R0:=keep hb5 R0;replace R1:=keep hb5 R1;replace hx:=hR _ _ _ hx hb5;replace hb:=Below.after hb hb5;refine hK _ _ R0 ?_;simp only[Act.put,List.getElem_toArray,List.getElem_cons_succ,List.getElem_cons_zero,List.setIfInBounds_toArray,List.set_cons_succ,List.set_cons_zero];clear hK
 refine wpAnyH_one (k:=5) (fuel:=0) (by kernel_rfl) rfl (by kernel_rfl) (fun K_ hK=>?_)
 refine wp_store_row 114 _ _ rfl (w.heap.size+1) #[.int .i64 no,.int .i64 2,(.func (.func 123) #[] #[.pointer (some ⟨w4.heap.size+1,0,none⟩)]:Value),(.func (.func 124) #[] #[.pointer (some ⟨w4.heap.size,0,none⟩),.pointer (some ⟨w4.heap.size+1,0,none⟩)]:Value),(.func (.func 125) #[] #[.pointer (some ⟨w4.heap.size+1,0,none⟩)]:Value)] rfl rfl 114 _ R1 infoSt rfl (by simp[Value.oneCell']) ?_
 refine hK _ _ ((setRow_other w5 (w.heap.size+1) w.heap.size _ (by omega)).trans R0) ?_
 simp only[Act.put,List.getElem_toArray,List.getElem_cons_succ,List.getElem_cons_zero];clear hK
 refine wpAnyH_done (by kernel_rfl) ?_ _
 go_wp2_with (fail)
 exact bodyPost_ret (v:=.agg #[.int .i64 no,.int .i64 2,(.func (.func 123) #[] #[.pointer (some ⟨w4.heap.size+1,0,none⟩)]:Value),(.func (.func 124) #[] #[.pointer (some ⟨w4.heap.size,0,none⟩),.pointer (some ⟨w4.heap.size+1,0,none⟩)]:Value),(.func (.func 125) #[] #[.pointer (some ⟨w4.heap.size+1,0,none⟩)]:Value)]) (results_cell_row Tryz.results70 _ _ (w.heap.size+1) _ #[.int .i64 no,.int .i64 2,(.func (.func 123) #[] #[.pointer (some ⟨w4.heap.size+1,0,none⟩)]:Value),(.func (.func 124) #[] #[.pointer (some ⟨w4.heap.size,0,none⟩),.pointer (some ⟨w4.heap.size+1,0,none⟩)]:Value),(.func (.func 125) #[] #[.pointer (some ⟨w4.heap.size+1,0,none⟩)]:Value)] _ _ rfl (setRow_heap _ _ _ _ _ _ R1) Tryz.underlying114 rfl infoSt) rfl ⟨w4.heap.size,_,w5,hz2,rfl,below_setRow hb (by omega) _,⟨T0,(setRow_other _ _ _ _ (by omega)).trans b0⟩,⟨T1,(setRow_other _ _ _ _ (by omega)).trans b1⟩,hx,hb,rfl⟩
set_option maxRecDepth 100000 in
set_option maxHeartbeats 4000000 in
theorem a_ready_lst (R:Value→World→Prop) (hR:∀v V V',R v V→Below V.heap.size V V'→R v V') (no l mo:Int) (so:Option Addr) (sn sc:Nat) (w:World)
 (hC:∀V,Below w.heap.size w V→w.heap.size+1+1≤V.heap.size→Calls Tryz.prog 43 #[.slice so sn sc] V fun e w'=>∃v,e=.returned v∧(∃xo xn xc,v=.slice xo xn xc)∧Below V.heap.size V w'∧R v w'):
 Calls Tryz.prog 70 #[.agg #[.int .i64 no,.iface 190 (.agg #[.int .u64 l,.int .u64 mo,.slice so sn sc])]] w fun e w'=>∃(n:Nat) (x:Value) (w4:World),w.heap.size+1+1≤n∧e=.returned (.agg #[.int .i64 no,.int .i64 2,(.func (.func 127) #[] #[.pointer (some ⟨n,0,none⟩),.pointer (some ⟨n+1,0,none⟩),.pointer (some ⟨n+1+1,0,none⟩)]:Value),(.func (.func 129) #[] #[.pointer (some ⟨n,0,none⟩),.pointer (some ⟨n+1+1,0,none⟩)]:Value),(.func (.func 131) #[] #[.pointer (some ⟨n+1,0,none⟩),.pointer (some ⟨n+1+1,0,none⟩)]:Value)])∧Below w.heap.size w w'∧Bx w' n #[.int .i64 no]∧Bx w' (n+1) #[.int .u64 l,.int .u64 mo,.slice so sn sc]∧Bx w' (n+1+1) #[x]∧R x w4∧Below w.heap.size w w4∧w'=w4.setRow (w.heap.size+1) #[.int .i64 no,.int .i64 2,(.func (.func 127) #[] #[.pointer (some ⟨n,0,none⟩),.pointer (some ⟨n+1,0,none⟩),.pointer (some ⟨n+1+1,0,none⟩)]:Value),(.func (.func 129) #[] #[.pointer (some ⟨n,0,none⟩),.pointer (some ⟨n+1+1,0,none⟩)]:Value),(.func (.func 131) #[] #[.pointer (some ⟨n+1,0,none⟩),.pointer (some ⟨n+1+1,0,none⟩)]:Value)]:=by
 have R0:=xp3_0 w (.cells #[.int .i64 no,.iface 190 (.agg #[.int .u64 l,.int .u64 mo,.slice so sn sc])] 138) (.cells #[.int .i64 0,.int .i64 0,.nilFunc,.nilFunc,.nilFunc] 114) (.cells #[.int .u64 l,.int .u64 mo,.slice so sn sc] 190);have R1:=xp3_1 w (.cells #[.int .i64 no,.iface 190 (.agg #[.int .u64 l,.int .u64 mo,.slice so sn sc])] 138) (.cells #[.int .i64 0,.int .i64 0,.nilFunc,.nilFunc,.nilFunc] 114) (.cells #[.int .u64 l,.int .u64 mo,.slice so sn sc] 190);have R2:=xp3_2 w (.cells #[.int .i64 no,.iface 190 (.agg #[.int .u64 l,.int .u64 mo,.slice so sn sc])] 138) (.cells #[.int .i64 0,.int .i64 0,.nilFunc,.nilFunc,.nilFunc] 114) (.cells #[.int .u64 l,.int .u64 mo,.slice so sn sc] 190);have hb:=xb3 w (.cells #[.int .i64 no,.iface 190 (.agg #[.int .u64 l,.int .u64 mo,.slice so sn sc])] 138) (.cells #[.int .i64 0,.int .i64 0,.nilFunc,.nilFunc,.nilFunc] 114) (.cells #[.int .u64 l,.int .u64 mo,.slice so sn sc] 190)
 have hz:(((w.alloc (.cells #[.int .i64 no,.iface 190 (.agg #[.int .u64 l,.int .u64 mo,.slice so sn sc])] 138)).alloc (.cells #[.int .i64 0,.int .i64 0,.nilFunc,.nilFunc,.nilFunc] 114)).alloc (.cells #[.int .u64 l,.int .u64 mo,.slice so sn sc] 190)).heap.size=w.heap.size+1+1+1:=by simp
 have t0:=ta_lists_numbers (.agg #[.int .u64 l,.int .u64 mo,.slice so sn sc]);have t1:=ta_lists_floats (.agg #[.int .u64 l,.int .u64 mo,.slice so sn sc]);have t2:=ta_lists_octets (.agg #[.int .u64 l,.int .u64 mo,.slice so sn sc]);have t3:=ta_lists_message (.agg #[.int .u64 l,.int .u64 mo,.slice so sn sc]);have t4:=ta_lists (.agg #[.int .u64 l,.int .u64 mo,.slice so sn sc]);have A0:=hide R0;have A1:=hide R1;have A2:=hide hb;have A3:=hide hz;have A4:=hide R2;clear R0 R1 R2 hb hz
 go_enter Tryz.func70,Tryz.ntmps70
 go_wp2_with (fail)
 generalize (((w.alloc (.cells #[.int .i64 no,.iface 190 (.agg #[.int .u64 l,.int .u64 mo,.slice so sn sc])] 138)).alloc (.cells #[.int .i64 0,.int .i64 0,.nilFunc,.nilFunc,.nilFunc] 114)).alloc (.cells #[.int .u64 l,.int .u64 mo,.slice so sn sc] 190))=w2 at *
 have R0:=A0.out;have R1:=A1.out;have R2:=A4.out;have hb:=A2.out;have hz:=A3.out;clear A0 A1 A2 A3 A4 t0 t1 t2 t3 t4
 refine wp_region_held (S:=fun W=>W.heap[w.heap.size]? =some (.cells #[.int .i64 no,.iface 190 (.agg #[.int .u64 l,.int .u64 mo,.slice so sn sc])] 138 (0,0))∧W.heap[w.heap.size+1+1]? =some (.cells #[.int .u64 l,.int .u64 mo,.slice so sn sc] 190 (0,0))) (by kernel_rfl) ?_
 change wpAnyH _ _ _ _ _ _ _ _ (World.drew _)
 have hbd:Below w2.heap.size w2 w2.drew:=below_drN (Below.refl _ _) 1;replace R0:=keep hbd R0;replace R1:=keep hbd R1;replace R2:=keep hbd R2;replace hb:=Below.after hb hbd;have hz2:w.heap.size+1+1+1≤w2.drew.heap.size:=Nat.le_trans (Nat.le_of_eq hz.symm) hbd.size;clear hbd hz
 generalize w2.drew=w3 at *
 refine wpAnyH_take (i:=0) (v:=?v4) rfl (by kernel_rfl) (by kernel_rfl) (by kernel_rfl) (fun _ _ _ h=>h) (Or.inl ⟨by rfl,?y4⟩) ⟨R0,R2⟩ ?r4
 case y4=>
  intro w_ hS_;go_simp
  try with_reducible rfl
 simp only[Act.put,List.getElem_toArray,List.getElem_cons_zero,List.setIfInBounds_toArray,List.set_cons_succ,List.set_cons_zero]
 refine wpAnyH_take (i:=1) (v:=.int .i64 no) rfl (by kernel_rfl) (by kernel_rfl) (by kernel_rfl) (fun _ _ _ h=>h) (Or.inl ⟨by rfl,?y5⟩) ⟨R0,R2⟩ ?r5
 case y5=>
  intro w_ hS_;have c_:=cell_of_row _ _ 0 _ _ _ hS_.1;go_simp
  try with_reducible rfl
 simp only[Act.put,List.getElem_toArray,List.getElem_cons_succ,List.getElem_cons_zero,List.setIfInBounds_toArray,List.set_cons_succ,List.set_cons_zero]
 refine wpAnyH_take (i:=2) (v:=.agg #[.int .u64 l,.int .u64 mo,.slice so sn sc]) rfl (by kernel_rfl) (by kernel_rfl) (by kernel_rfl) (fun _ _ _ h=>h) (Or.inl ⟨by rfl,?y6⟩) ⟨R0,R2⟩ ?r6
 case y6=>
  intro w_ hS_;have c0_:=cell_of_row _ _ 0 _ _ _ hS_.2;have c1_:=cell_of_row _ _ 1 _ _ _ hS_.2;have c2_:=cell_of_row _ _ 2 _ _ _ hS_.2;go_simp
  try with_reducible rfl
 simp only[Act.put,List.getElem_toArray,List.getElem_cons_succ,List.getElem_cons_zero,List.setIfInBounds_toArray,List.set_cons_succ,List.set_cons_zero]
 refine wpAnyH_take (i:=3) (v:=?v7) rfl (by kernel_rfl) (by kernel_rfl) (by kernel_rfl) (fun _ _ _ h=>h) (Or.inl ⟨by rfl,?y7⟩) ⟨R0,R2⟩ ?r7
 case y7=>
  intro w_ hS_;go_simp
  try with_reducible rfl
 simp only[Act.put,List.getElem_toArray,List.getElem_cons_succ,List.getElem_cons_zero,List.setIfInBounds_toArray,List.set_cons_succ,List.set_cons_zero]
 refine wpAnyH_take (i:=4) (v:=.slice so sn sc) rfl (by kernel_rfl) (by kernel_rfl) (by kernel_rfl) (fun _ _ _ h=>h) (Or.inl ⟨by rfl,?y8⟩) ⟨R0,R2⟩ ?r8
 case y8=>
  intro w_ hS_;have c0_:=cell_of_row _ _ 0 _ _ _ hS_.2;have c1_:=cell_of_row _ _ 1 _ _ _ hS_.2;have c2_:=cell_of_row _ _ 2 _ _ _ hS_.2;go_simp
  try with_reducible rfl
 simp only[Act.put,List.getElem_toArray,List.getElem_cons_succ,List.getElem_cons_zero,List.setIfInBounds_toArray,List.set_cons_succ,List.set_cons_zero]
 refine wpAnyH_one (k:=5) (fuel:=2) (by kernel_rfl) rfl (by kernel_rfl) (fun K_ hK=>?_)
 refine wp_call_ex (f:=43) (by kernel_rfl) (hC w3 hb (by omega)) (fun x w4 hX_=>?_)
 obtain⟨⟨xo,xn,xc,rfl⟩,hb4,hx⟩:=hX_;replace R0:=keep hb4 R0;replace R1:=keep hb4 R1;replace R2:=keep hb4 R2;replace hb:=Below.after hb hb4;replace hz2:w.heap.size+1+1+1≤w4.heap.size:=Nat.le_trans hz2 hb4.size;clear hb4 hC;refine hK _ _ ⟨R0,R2⟩ ?_;simp only[Act.put,List.getElem_toArray,List.getElem_cons_succ,List.getElem_cons_zero,List.setIfInBounds_toArray,List.set_cons_succ,List.set_cons_zero];clear hK
 refine wpAnyH_one (k:=6) (fuel:=1) (by kernel_rfl) rfl (by kernel_rfl) (fun K_ hK=>?_)
 refine wp_call_ex (f:=97) (R:=fun v w'=>v=.agg #[.int .i64 no,.int .i64 2,(.func (.func 127) #[] #[.pointer (some ⟨w4.heap.size,0,none⟩),.pointer (some ⟨w4.heap.size+1,0,none⟩),.pointer (some ⟨w4.heap.size+1+1,0,none⟩)]:Value),(.func (.func 129) #[] #[.pointer (some ⟨w4.heap.size,0,none⟩),.pointer (some ⟨w4.heap.size+1+1,0,none⟩)]:Value),(.func (.func 131) #[] #[.pointer (some ⟨w4.heap.size+1,0,none⟩),.pointer (some ⟨w4.heap.size+1+1,0,none⟩)]:Value)]∧Below w4.heap.size w4 w'∧(∃T,w'.heap[w4.heap.size]? =some (.cells #[.int .i64 no] T (0,0)))∧(∃T,w'.heap[w4.heap.size+1]? =some (.cells #[.int .u64 l,.int .u64 mo,.slice so sn sc] T (0,0)))∧(∃T,w'.heap[w4.heap.size+1+1]? =some (.cells #[.slice xo xn xc] T (0,0)))) (by kernel_rfl) ((a_listed no l mo so sn sc xo xn xc w4).mono fun e w' h=>⟨_,h.1,rfl,h.2⟩) (fun v_ w5 hX_=>?_)
 obtain⟨rfl,hb5,⟨T0,b0⟩,⟨T1,b1⟩,⟨T2,b2⟩⟩:=hX_;replace R0:=keep hb5 R0;replace R1:=keep hb5 R1;replace R2:=keep hb5 R2;replace hx:=hR _ _ _ hx hb5;replace hb:=Below.after hb hb5;refine hK _ _ ⟨R0,R2⟩ ?_;simp only[Act.put,List.getElem_toArray,List.getElem_cons_succ,List.getElem_cons_zero,List.setIfInBounds_toArray,List.set_cons_succ,List.set_cons_zero];clear hK
 refine wpAnyH_one (k:=7) (fuel:=0) (by kernel_rfl) rfl (by kernel_rfl) (fun K_ hK=>?_)
 refine wp_store_row 114 _ _ rfl (w.heap.size+1) #[.int .i64 no,.int .i64 2,(.func (.func 127) #[] #[.pointer (some ⟨w4.heap.size,0,none⟩),.pointer (some ⟨w4.heap.size+1,0,none⟩),.pointer (some ⟨w4.heap.size+1+1,0,none⟩)]:Value),(.func (.func 129) #[] #[.pointer (some ⟨w4.heap.size,0,none⟩),.pointer (some ⟨w4.heap.size+1+1,0,none⟩)]:Value),(.func (.func 131) #[] #[.pointer (some ⟨w4.heap.size+1,0,none⟩),.pointer (some ⟨w4.heap.size+1+1,0,none⟩)]:Value)] rfl rfl 114 _ R1 infoSt rfl (by simp[Value.oneCell']) ?_
 refine hK _ _ ⟨(setRow_other w5 (w.heap.size+1) w.heap.size _ (by omega)).trans R0,(setRow_other w5 (w.heap.size+1) (w.heap.size+1+1) _ (by omega)).trans R2⟩ ?_
 simp only[Act.put,List.getElem_toArray,List.getElem_cons_succ,List.getElem_cons_zero];clear hK
 refine wpAnyH_done (by kernel_rfl) ?_ _
 go_wp2_with (fail)
 exact bodyPost_ret (v:=.agg #[.int .i64 no,.int .i64 2,(.func (.func 127) #[] #[.pointer (some ⟨w4.heap.size,0,none⟩),.pointer (some ⟨w4.heap.size+1,0,none⟩),.pointer (some ⟨w4.heap.size+1+1,0,none⟩)]:Value),(.func (.func 129) #[] #[.pointer (some ⟨w4.heap.size,0,none⟩),.pointer (some ⟨w4.heap.size+1+1,0,none⟩)]:Value),(.func (.func 131) #[] #[.pointer (some ⟨w4.heap.size+1,0,none⟩),.pointer (some ⟨w4.heap.size+1+1,0,none⟩)]:Value)]) (results_cell_row Tryz.results70 _ _ (w.heap.size+1) _ #[.int .i64 no,.int .i64 2,(.func (.func 127) #[] #[.pointer (some ⟨w4.heap.size,0,none⟩),.pointer (some ⟨w4.heap.size+1,0,none⟩),.pointer (some ⟨w4.heap.size+1+1,0,none⟩)]:Value),(.func (.func 129) #[] #[.pointer (some ⟨w4.heap.size,0,none⟩),.pointer (some ⟨w4.heap.size+1+1,0,none⟩)]:Value),(.func (.func 131) #[] #[.pointer (some ⟨w4.heap.size+1,0,none⟩),.pointer (some ⟨w4.heap.size+1+1,0,none⟩)]:Value)] _ _ rfl (setRow_heap _ _ _ _ _ _ R1) Tryz.underlying114 rfl infoSt) rfl ⟨w4.heap.size,_,w5,by omega,rfl,below_setRow hb (by omega) _,⟨T0,(setRow_other _ _ _ _ (by omega)).trans b0⟩,⟨T1,(setRow_other _ _ _ _ (by omega)).trans b1⟩,⟨T2,(setRow_other _ _ _ _ (by omega)).trans b2⟩,hx,hb,rfl⟩
end Go.Proofs.YtmmlkfkpblokiaaGreatDoor
namespace Go.Proofs.YtmmlkfkpblokiaaGreatDoor
set_option maxRecDepth 100000
open Go Go.RowKit Go.Sort
attribute [local go_sem] setCell_drewN alloc_drewN
def rdv (no wt:Int) (k1 k2 k3:FuncId) (a1 a2 a3:Array Value):Array Value:=#[.int .i64 no,.int .i64 wt,.func (.func k1) #[] a1,.func (.func k2) #[] a2,.func (.func k3) #[] a3]
def BxS (W:World) (S:Nat→Prop) (g:Nat) (c:Array Value):Prop:=S g∧Bx W g c
def PlC (W:World) (S:Nat→Prop) (no wt:Int) (k:FuncId) (cs row:Array Value):Prop:=∃g0 g1 g2 g4 gs,row=rdv no wt 114 115 116 #[ptr g4,ptr g0,ptr g2] #[ptr g0,ptr g1] #[ptr g2]∧BxS W S g0 #[.int .i64 no]∧BxS W S g1 #[.int .i64 wt]∧BxS W S g2 #[.func (.func k) #[] #[ptr gs]]∧BxS W S g4 #[.bool (wt==2)]∧BxS W S gs cs
def InC (W:World) (S:Nat→Prop) (no:Int) (x:Value) (row:Array Value):Prop:=∃g0 g1,row=rdv no 2 123 124 125 #[ptr g1] #[ptr g0,ptr g1] #[ptr g1]∧BxS W S g0 #[.int .i64 no]∧BxS W S g1 #[x]
def LiC (W:World) (S:Nat→Prop) (no l m:Int) (x:Value) (row:Array Value):Prop:=∃g0 g1 g2 y,row=rdv no 2 127 129 131 #[ptr g0,ptr g1,ptr g2] #[ptr g0,ptr g2] #[ptr g1,ptr g2]∧BxS W S g0 #[.int .i64 no]∧BxS W S g1 #[.int .u64 l,.int .u64 m,y]∧BxS W S g2 #[x]
def SlC (W:World) (S:Nat→Prop) (t:Slt) (x:Value) (row:Array Value):Prop:=
 (t.kind=1∧PlC W S t.no 0 90 #[.int .i64 0,.int .u64 (t.least:Int),.int .u64 (t.most:Int)] row)∨
 (t.kind=2∧PlC W S t.no 5 90 #[.int .i64 5,.int .u64 (t.least:Int),.int .u64 (t.most:Int)] row)∨
 (t.kind=3∧PlC W S t.no 1 90 #[.int .i64 1,.int .u64 (t.least:Int),.int .u64 (t.most:Int)] row)∨
 (t.kind=4∧PlC W S t.no 0 90 #[.int .i64 0,.int .u64 0,.int .u64 1] row)∨
 ((t.kind=5∨t.kind=6)∧PlC W S t.no 2 94 #[.int .u64 (t.least:Int),.int .u64 (t.most:Int),.bool (t.kind==6)] row)∨
 (t.kind=7∧PlC W S t.no 1 92 #[.float .f64 (floatOfInt .f64 (t.most:Int))] row)∨
 (t.kind=8∧InC W S t.no x row)∨
 (t.kind=9∧LiC W S t.no (t.least:Int) (t.most:Int) x row)
inductive RdL (W:World) (S:Nat→Prop):Value→List Slt→Prop
 |mk (ao:Option Addr) (cap:Nat) (ts:List Slt) (rows:Nat→Array Value) (us:Nat→Value) (hl:ts.length≤16) (hc:ts.length≤cap) (hn:ao=none→cap=0)
  (h:∀i,i<ts.length→∃b,ao=some ⟨b,0,none⟩∧b<W.heap.size∧S b∧W.rangeAt b (i*5) (rows i).toList∧SlC W S (gs ts i) (us i) (rows i))
  (hs:∀i,i<ts.length→nst (gs ts i)→RdL W S (us i) (gs ts i).sub):RdL W S (.slice ao ts.length cap) ts
theorem Bx.same {W V:World} {g:Nat} {c:Array Value} (h:Bx W g c) (hb:V.heap[g]? =W.heap[g]?):Bx V g c:=by
 obtain⟨T,h⟩:=h;exact⟨T,hb.trans h⟩
theorem Bx.lt {W:World} {g:Nat} {c:Array Value} (h:Bx W g c):g<W.heap.size:=by
 obtain⟨T,h⟩:=h;exact lt_of_row h
def Sty (W V:World) (S T:Nat→Prop):Prop:=W.heap.size≤V.heap.size∧∀b,b<W.heap.size→S b→V.heap[b]? =W.heap[b]?∧T b
theorem BxS.keep {W V:World} {S T:Nat→Prop} {g:Nat} {c:Array Value} (h:BxS W S g c) (hk:Sty W V S T):BxS V T g c:=⟨(hk.2 g h.2.lt h.1).2,h.2.same (hk.2 g h.2.lt h.1).1⟩
theorem PlC.keep {W V:World} {S T:Nat→Prop} {no wt:Int} {k:FuncId} {cs row:Array Value} (h:PlC W S no wt k cs row) (hk:Sty W V S T):PlC V T no wt k cs row:=by
 obtain⟨g0,g1,g2,g4,gs,e,h0,h1,h2,h4,h5⟩:=h;exact⟨g0,g1,g2,g4,gs,e,h0.keep hk,h1.keep hk,h2.keep hk,h4.keep hk,h5.keep hk⟩
theorem InC.keep {W V:World} {S T:Nat→Prop} {no:Int} {x:Value} {row:Array Value} (h:InC W S no x row) (hk:Sty W V S T):InC V T no x row:=by
 obtain⟨g0,g1,e,h0,h1⟩:=h;exact⟨g0,g1,e,h0.keep hk,h1.keep hk⟩
theorem LiC.keep {W V:World} {S T:Nat→Prop} {no l m:Int} {x:Value} {row:Array Value} (h:LiC W S no l m x row) (hk:Sty W V S T):LiC V T no l m x row:=by
 obtain⟨g0,g1,g2,y,e,h0,h1,h2⟩:=h;exact⟨g0,g1,g2,y,e,h0.keep hk,h1.keep hk,h2.keep hk⟩
theorem SlC.keep {W V:World} {S T:Nat→Prop} {t:Slt} {x:Value} {row:Array Value} (h:SlC W S t x row) (hk:Sty W V S T):SlC V T t x row:=by
 rcases h with⟨e,h⟩|⟨e,h⟩|⟨e,h⟩|⟨e,h⟩|⟨e,h⟩|⟨e,h⟩|⟨e,h⟩|⟨e,h⟩
 ·exact .inl ⟨e,h.keep hk⟩
 ·exact .inr (.inl ⟨e,h.keep hk⟩)
 ·exact .inr (.inr (.inl ⟨e,h.keep hk⟩))
 ·exact .inr (.inr (.inr (.inl ⟨e,h.keep hk⟩)))
 ·exact .inr (.inr (.inr (.inr (.inl ⟨e,h.keep hk⟩))))
 ·exact .inr (.inr (.inr (.inr (.inr (.inl ⟨e,h.keep hk⟩)))))
 ·exact .inr (.inr (.inr (.inr (.inr (.inr (.inl ⟨e,h.keep hk⟩))))))
 ·exact .inr (.inr (.inr (.inr (.inr (.inr (.inr ⟨e,h.keep hk⟩))))))
theorem RdL.keep {W V:World} {S T:Nat→Prop} {v:Value} {ts:List Slt} (h:RdL W S v ts) (hk:Sty W V S T):RdL V T v ts:=by
 induction h with
 |mk ao cap ts rows us hl hc hn h hs ih=>
  refine .mk ao cap ts rows us hl hc hn (fun i hi=>?_) ih
  obtain⟨b,h1,h2,h3,h4,h5⟩:=h i hi;exact⟨b,h1,Nat.lt_of_lt_of_le h2 hk.1,(hk.2 b h2 h3).2,range_same h4 (hk.2 b h2 h3).1,h5.keep hk⟩
theorem Sty.below {W V:World} {S:Nat→Prop} (h:Below W.heap.size W V):Sty W V S S:=⟨h.size,fun b hb hS=>⟨h.block b hb,hS⟩⟩
theorem RdL.form {W:World} {S:Nat→Prop} {v:Value} {ts:List Slt} (h:RdL W S v ts):∃ao cap,v=.slice ao ts.length cap:=by
 cases h with
 |mk ao cap ts rows us hl hc hn h hs=>exact⟨ao,cap,rfl⟩
theorem rdv_form {W:World} {S:Nat→Prop} {t:Slt} {x:Value} {row:Array Value} (h:SlC W S t x row):∃wt k1 k2 k3 a1 a2 a3,row=rdv t.no wt k1 k2 k3 a1 a2 a3:=by
 rcases h with⟨e,h⟩|⟨e,h⟩|⟨e,h⟩|⟨e,h⟩|⟨e,h⟩|⟨e,h⟩|⟨e,h⟩|⟨e,h⟩
 all_goals first
  |(obtain⟨g0,g1,g2,g4,gs,e,_⟩:=h;exact⟨_,_,_,_,_,_,_,e⟩)
  |(obtain⟨g0,g1,e,_⟩:=h;exact⟨_,_,_,_,_,_,_,e⟩)
  |(obtain⟨g0,g1,g2,y,e,_⟩:=h;exact⟨_,_,_,_,_,_,_,e⟩)
theorem Bx.row {w4:World} {g n:Nat} {cs c:Array Value} (h:Bx w4 n c) (hne:n≠g):Bx (w4.setRow g cs) n c:=h.same (setRow_other w4 g n cs hne)
theorem a_ready_any {t:Slt} {u:Value} (hfit:sfit t=true) (hFl:Flt t u) (w:World) (hu:nst t→∃so sn sc,u=.slice so sn sc)
 (hC:nst t→∀V,Below w.heap.size w V→Calls Tryz.prog 43 #[u] V fun e w'=>∃v,e=.returned v∧(∃xo xn xc,v=.slice xo xn xc)∧Below V.heap.size V w'∧RdL w' (fun b=>V.heap.size≤b) v t.sub):
 Calls Tryz.prog 70 #[.agg #[.int .i64 t.no,shp t u]] w fun e w'=>∃row x,e=.returned (.agg row)∧Below w.heap.size w w'∧SlC w' (fun b=>w.heap.size≤b) t x row∧(nst t→RdL w' (fun b=>w.heap.size≤b) x t.sub):=by
 have hc:=fit_cases (show fitN t.kind (t.least:Int) (t.most:Int) t.sub.length=true from hfit)
 have key:∀x,shp t u=x→(Calls Tryz.prog 70 #[.agg #[.int .i64 t.no,x]] w fun e w'=>∃row x,e=.returned (.agg row)∧Below w.heap.size w w'∧SlC w' (fun b=>w.heap.size≤b) t x row∧(nst t→RdL w' (fun b=>w.heap.size≤b) x t.sub))→(Calls Tryz.prog 70 #[.agg #[.int .i64 t.no,shp t u]] w fun e w'=>∃row x,e=.returned (.agg row)∧Below w.heap.size w w'∧SlC w' (fun b=>w.heap.size≤b) t x row∧(nst t→RdL w' (fun b=>w.heap.size≤b) x t.sub)):=fun x e h=>by rw[e];exact h
 have nn:∀k,t.kind=k→k≠8→k≠9→∀P:Prop,nst t→P:=fun k e h8 h9 P hn=>by
  rcases hn with q|q<;>omega
 have le:∀k:Nat,w.heap.size≤w.heap.size+k:=fun k=>Nat.le_add_right _ _
 rcases hc with⟨hk,_⟩|⟨hk,_⟩|⟨hk,_⟩|hk|⟨hk,_⟩|hk|hk|⟨hk,_⟩
 ·exact key _ (by unfold shp;rw[hk];rfl) ((a_ready_num _ _ _ _ w).mono fun e w' ⟨h1,h2,h3,h4,h5,h6,h7⟩=>⟨_,undef,h1,h2,.inl ⟨hk,_,_,_,_,_,rfl,⟨by omega,h4⟩,⟨by omega,h5⟩,⟨by omega,h6⟩,⟨by omega,h7⟩,⟨by omega,h3⟩⟩,nn _ hk (by decide) (by decide) _⟩)
 ·exact key _ (by unfold shp;rw[hk];rfl) ((a_ready_num _ _ _ _ w).mono fun e w' ⟨h1,h2,h3,h4,h5,h6,h7⟩=>⟨_,undef,h1,h2,.inr (.inl ⟨hk,_,_,_,_,_,rfl,⟨by omega,h4⟩,⟨by omega,h5⟩,⟨by omega,h6⟩,⟨by omega,h7⟩,⟨by omega,h3⟩⟩),nn _ hk (by decide) (by decide) _⟩)
 ·exact key _ (by unfold shp;rw[hk];rfl) ((a_ready_num _ _ _ _ w).mono fun e w' ⟨h1,h2,h3,h4,h5,h6,h7⟩=>⟨_,undef,h1,h2,.inr (.inr (.inl ⟨hk,_,_,_,_,_,rfl,⟨by omega,h4⟩,⟨by omega,h5⟩,⟨by omega,h6⟩,⟨by omega,h7⟩,⟨by omega,h3⟩⟩)),nn _ hk (by decide) (by decide) _⟩)
 ·exact key _ (by unfold shp;rw[hk];rfl) ((a_ready_num _ _ _ _ w).mono fun e w' ⟨h1,h2,h3,h4,h5,h6,h7⟩=>⟨_,undef,h1,h2,.inr (.inr (.inr (.inl ⟨hk,_,_,_,_,_,rfl,⟨by omega,h4⟩,⟨by omega,h5⟩,⟨by omega,h6⟩,⟨by omega,h7⟩,⟨by omega,h3⟩⟩))),nn _ hk (by decide) (by decide) _⟩)
 ·rcases hk with hk|hk
  ·exact key (.iface 186 (.agg #[.int .u64 (t.least:Int),.int .u64 (t.most:Int),.bool false])) (by unfold shp;rw[hk];rfl) ((a_ready_oct t.no (t.least:Int) (t.most:Int) false w).mono fun e w' ⟨h1,h2,h3,h4,h5,h6,h7⟩=>⟨_,undef,h1,h2,.inr (.inr (.inr (.inr (.inl ⟨.inl hk,_,_,_,_,_,rfl,⟨by omega,h4⟩,⟨by omega,h5⟩,⟨by omega,h6⟩,⟨by omega,h7⟩,⟨by omega,by rw[hk];exact h3⟩⟩)))),nn _ hk (by decide) (by decide) _⟩)
  ·exact key (.iface 186 (.agg #[.int .u64 (t.least:Int),.int .u64 (t.most:Int),.bool true])) (by unfold shp;rw[hk];rfl) ((a_ready_oct t.no (t.least:Int) (t.most:Int) true w).mono fun e w' ⟨h1,h2,h3,h4,h5,h6,h7⟩=>⟨_,undef,h1,h2,.inr (.inr (.inr (.inr (.inl ⟨.inr hk,_,_,_,_,_,rfl,⟨by omega,h4⟩,⟨by omega,h5⟩,⟨by omega,h6⟩,⟨by omega,h7⟩,⟨by omega,by rw[hk];exact h3⟩⟩)))),nn _ hk (by decide) (by decide) _⟩)
 ·have hu7:=hFl hk
  subst hu7
  exact key _ (by unfold shp;rw[hk];rfl) ((a_ready_flt _ _ w).mono fun e w' ⟨h1,h2,h3,h4,h5,h6,h7⟩=>⟨_,undef,h1,h2,.inr (.inr (.inr (.inr (.inr (.inl ⟨hk,_,_,_,_,_,rfl,⟨by omega,h4⟩,⟨by omega,h5⟩,⟨by omega,h6⟩,⟨by omega,h7⟩,⟨by omega,h3⟩⟩))))),nn _ hk (by decide) (by decide) _⟩)
 ·obtain⟨so,sn,sc,rfl⟩:=hu (.inl hk)
  refine key _ (by unfold shp;rw[hk];rfl) ((a_ready_msg (fun v V=>RdL V (fun b=>w.heap.size+1+1≤b) v t.sub) (fun v V V' h hb=>h.keep (Sty.below hb)) _ so sn sc w (fun V hV hz=>(hC (.inl hk) V hV).mono fun e w' ⟨v,h1,h2,h3,h4⟩=>⟨v,h1,h2,h3,h4.keep ⟨Nat.le_refl _,fun b _ hb=>⟨rfl,Nat.le_trans hz hb⟩⟩⟩)).mono fun e w' ⟨n,x,w4,h0,h1,h2,h3,h4,h5,h6,h7⟩=>?_)
  refine⟨_,x,h1,h2,.inr (.inr (.inr (.inr (.inr (.inr (.inl ⟨hk,_,_,rfl,⟨by omega,h3⟩,⟨by omega,h4⟩⟩)))))),fun _=>?_⟩
  rw[h7]
  exact h5.keep ⟨by simp,fun b _ hb=>⟨setRow_other _ _ _ _ (by omega),by omega⟩⟩
 ·obtain⟨so,sn,sc,rfl⟩:=hu (.inr hk)
  refine key _ (by unfold shp;rw[hk];rfl) ((a_ready_lst (fun v V=>RdL V (fun b=>w.heap.size+1+1≤b) v t.sub) (fun v V V' h hb=>h.keep (Sty.below hb)) t.no (t.least:Int) (t.most:Int) so sn sc w (fun V hV hz=>(hC (.inr hk) V hV).mono fun e w' ⟨v,h1,h2,h3,h4⟩=>⟨v,h1,h2,h3,h4.keep ⟨Nat.le_refl _,fun b _ hb=>⟨rfl,Nat.le_trans hz hb⟩⟩⟩)).mono fun e w' ⟨n,x,w4,h0,h1,h2,h3,h3b,h4,h5,h6,h7⟩=>?_)
  refine⟨_,x,h1,h2,.inr (.inr (.inr (.inr (.inr (.inr (.inr ⟨hk,_,_,_,_,rfl,⟨by omega,h3⟩,⟨by omega,h3b⟩,⟨by omega,h4⟩⟩)))))),fun _=>?_⟩
  rw[h7]
  exact h5.keep ⟨by simp,fun b _ hb=>⟨setRow_other _ _ _ _ (by omega),by omega⟩⟩
end Go.Proofs.YtmmlkfkpblokiaaGreatDoor
