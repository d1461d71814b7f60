import Derived.Test.YtdcpcdkbhgkmlaaDoorProg
import Derived.WalkKit
import Derived.WalkSpells
import Derived.WalkLawsBesides
import Derived.Lib.QuietBelow
import Derived.BigQuiet
import Derived.Test.YtdcpcdkbhgkmlaaDoorEKa
import Derived.Test.YtdcpcdkbhgkmlaaDoorEDwd
import Derived.Test.YtdcpcdkbhgkmlaaDoorEGs
import Derived.OrdersHeld
import Derived.Deep.RegionHeld3
import Derived.Test.YtdcpcdkbhgkmlaaDoorEDwa
namespace Go.Proofs.YtdcpcdkbhgkmlaaDoor
set_option maxRecDepth 100000
open Go.RowKit Go.Sort
attribute [local go_sem] setCell_drewN alloc_drewN
def WpStay (p:Prop):Prop:=p
theorem wpList_stay {P:Program} {ops:Array Oper} {rest:List Oper} {a:Act} {w:World} {Q:Exit→Act→World→Prop} (h:WpStay (wpList P ops Q rest a w)):wpList P ops Q rest a w:=h
theorem run_loadVar_int {P:Program} (w:World) (g o:Nat) (ty:TypeId) (v:Value) (hc:w.cell? ⟨g,o,none⟩=some v) {k:IntKind} (hu:P.underlying ty=some (.int k)):(loadVar ty ⟨g,o,none⟩).run P w=.ok v w:=by
 simp[loadVar,isAgg,run_underlying hu,hc,go_sem]
theorem wpList_load_cell31 {P:Program} {ops:Array Oper} {rest:List Oper} {o:Oper} {a:Act} {w:World} {Q:Exit→Act→World→Prop} (hw:Region.wanted o (yielded ops a.tmps)=true) (ty:TypeId) (x:Operand) (ho:o.op=.load ty x)
 (g off:Nat) (hx:a.eval x=.pointer (some ⟨g,off,none⟩)) (v:Value) (hc:w.cell? ⟨g,off,none⟩=some v) {k:IntKind} (hu:P.underlying ty=some (.int k))
 (h:wpList P ops Q rest (a.put o.dst v) w):wpList P ops Q (o::rest) a w:=by
 refine BigFrame.wpList_want hw fun _ hK=>?_
 unfold Oper.wp execOp;simp only[ho,hx,Instr.loadAt,Instr.sureAddr,Sem.run_bind,Sem.run_pure,Result.andThen_ok,run_loadVar_int w g off ty v hc hu];exact hK _ _ h
theorem wpList_store_cell31 {P:Program} {ops:Array Oper} {rest:List Oper} {o:Oper} {a:Act} {w:World} {Q:Exit→Act→World→Prop} (hgd:o.guard=none) (ty:TypeId) (x y:Operand) (ho:o.op=.store ty x y)
 (g off:Nat) (hx:a.eval x=.pointer (some ⟨g,off,none⟩)) (v:Value) (hy:a.eval y=v)
 (t:TypeId) (old:Array Value) (hg:w.heap[g]? =some (.cells old t (0,0))) (hle:off<old.size) (hi:(P.info? ty).map (·.size)=some 1) (h1:v.oneCell'=true)
 (h:wpList P ops Q rest (a.put o.dst undef) (w.setRow g (old.setIfInBounds off v))):wpList P ops Q (o::rest) a w:=by
 refine wpList_plain hgd fun _ hK=>?_
 have hs:=run_storeVar_mid (P:=P) w g off ty #[v] (there_row hg (by simp;omega)) (by simpa using hi) (by simpa using h1)
 have e:w.setCells g off [v]=w.setRow g (old.setIfInBounds off v):=setCells_eq [v] off w old hg
 have hs':(storeVar ty ⟨g,off,none⟩ v).run P w=.ok () (w.setRow g (old.setIfInBounds off v)):=by
  rw[←e]
  cases v<;>first|(simp[Value.oneCell'] at h1;done)|exact hs
 unfold Oper.wp execOp;simp only[ho,hx,hy,Instr.storeAt,Instr.sureAddr,Sem.run_bind,Sem.run_pure,Result.andThen_ok,hs'];exact hK _ _ h
theorem all32' {k0:Int} {k1:Int} {k2:Int} {k3:Int} {k4:Int} {k5:Int} {k6:Int} {k7:Int} {k8:Int} {k9:Int} {k10:Int} {k11:Int} {k12:Int} {k13:Int} {k14:Int} {k15:Int} {k16:Int} {k17:Int} {k18:Int} {k19:Int} {k20:Int} {k21:Int} {k22:Int} {k23:Int} {k24:Int} {k25:Int} {k26:Int} {k27:Int} {k28:Int} {k29:Int} {k30:Int} {k31:Int} (h0:0≤k0∧k0<256) (h1:0≤k1∧k1<256) (h2:0≤k2∧k2<256) (h3:0≤k3∧k3<256) (h4:0≤k4∧k4<256) (h5:0≤k5∧k5<256) (h6:0≤k6∧k6<256) (h7:0≤k7∧k7<256) (h8:0≤k8∧k8<256) (h9:0≤k9∧k9<256) (h10:0≤k10∧k10<256) (h11:0≤k11∧k11<256) (h12:0≤k12∧k12<256) (h13:0≤k13∧k13<256) (h14:0≤k14∧k14<256) (h15:0≤k15∧k15<256) (h16:0≤k16∧k16<256) (h17:0≤k17∧k17<256) (h18:0≤k18∧k18<256) (h19:0≤k19∧k19<256) (h20:0≤k20∧k20<256) (h21:0≤k21∧k21<256) (h22:0≤k22∧k22<256) (h23:0≤k23∧k23<256) (h24:0≤k24∧k24<256) (h25:0≤k25∧k25<256) (h26:0≤k26∧k26<256) (h27:0≤k27∧k27<256) (h28:0≤k28∧k28<256) (h29:0≤k29∧k29<256) (h30:0≤k30∧k30<256) (h31:0≤k31∧k31<256):∀z∈[k0,k1,k2,k3,k4,k5,k6,k7,k8,k9,k10,k11,k12,k13,k14,k15,k16,k17,k18,k19,k20,k21,k22,k23,k24,k25,k26,k27,k28,k29,k30,k31],0≤z∧z<256:=by
 intro z hz;simp only[List.mem_cons,List.not_mem_nil,or_false] at hz
 rcases hz with rfl|rfl|rfl|rfl|rfl|rfl|rfl|rfl|rfl|rfl|rfl|rfl|rfl|rfl|rfl|rfl|rfl|rfl|rfl|rfl|rfl|rfl|rfl|rfl|rfl|rfl|rfl|rfl|rfl|rfl|rfl|rfl<;>assumption
theorem key_is {r:Array Value} {N:Int} (h:KeyOf r N):r=kb N:=by
 obtain⟨k0,k1,k2,k3,k4,k5,k6,k7,k8,k9,k10,k11,k12,k13,k14,k15,k16,k17,k18,k19,k20,k21,k22,k23,k24,k25,k26,k27,k28,k29,k30,k31,rfl,⟨h0,h1,h2,h3,h4,h5,h6,h7,h8,h9,h10,h11,h12,h13,h14,h15,h16,h17,h18,h19,h20,h21,h22,h23,h24,h25,h26,h27,h28,h29,h30,h31⟩,rfl⟩:=h;have hb:=all32' h0 h1 h2 h3 h4 h5 h6 h7 h8 h9 h10 h11 h12 h13 h14 h15 h16 h17 h18 h19 h20 h21 h22 h23 h24 h25 h26 h27 h28 h29 h30 h31;unfold kb
 rw[show byt (kv k0 k1 k2 k3 k4 k5 k6 k7 k8 k9 k10 k11 k12 k13 k14 k15 k16 k17 k18 k19 k20 k21 k22 k23 k24 k25 k26 k27 k28 k29 k30 k31) 0=k0 from byt_valB _ hb 0 (by simp),show byt (kv k0 k1 k2 k3 k4 k5 k6 k7 k8 k9 k10 k11 k12 k13 k14 k15 k16 k17 k18 k19 k20 k21 k22 k23 k24 k25 k26 k27 k28 k29 k30 k31) 1=k1 from byt_valB _ hb 1 (by simp),show byt (kv k0 k1 k2 k3 k4 k5 k6 k7 k8 k9 k10 k11 k12 k13 k14 k15 k16 k17 k18 k19 k20 k21 k22 k23 k24 k25 k26 k27 k28 k29 k30 k31) 2=k2 from byt_valB _ hb 2 (by simp),show byt (kv k0 k1 k2 k3 k4 k5 k6 k7 k8 k9 k10 k11 k12 k13 k14 k15 k16 k17 k18 k19 k20 k21 k22 k23 k24 k25 k26 k27 k28 k29 k30 k31) 3=k3 from byt_valB _ hb 3 (by simp),show byt (kv k0 k1 k2 k3 k4 k5 k6 k7 k8 k9 k10 k11 k12 k13 k14 k15 k16 k17 k18 k19 k20 k21 k22 k23 k24 k25 k26 k27 k28 k29 k30 k31) 4=k4 from byt_valB _ hb 4 (by simp),show byt (kv k0 k1 k2 k3 k4 k5 k6 k7 k8 k9 k10 k11 k12 k13 k14 k15 k16 k17 k18 k19 k20 k21 k22 k23 k24 k25 k26 k27 k28 k29 k30 k31) 5=k5 from byt_valB _ hb 5 (by simp),show byt (kv k0 k1 k2 k3 k4 k5 k6 k7 k8 k9 k10 k11 k12 k13 k14 k15 k16 k17 k18 k19 k20 k21 k22 k23 k24 k25 k26 k27 k28 k29 k30 k31) 6=k6 from byt_valB _ hb 6 (by simp),show byt (kv k0 k1 k2 k3 k4 k5 k6 k7 k8 k9 k10 k11 k12 k13 k14 k15 k16 k17 k18 k19 k20 k21 k22 k23 k24 k25 k26 k27 k28 k29 k30 k31) 7=k7 from byt_valB _ hb 7 (by simp),show byt (kv k0 k1 k2 k3 k4 k5 k6 k7 k8 k9 k10 k11 k12 k13 k14 k15 k16 k17 k18 k19 k20 k21 k22 k23 k24 k25 k26 k27 k28 k29 k30 k31) 8=k8 from byt_valB _ hb 8 (by simp),show byt (kv k0 k1 k2 k3 k4 k5 k6 k7 k8 k9 k10 k11 k12 k13 k14 k15 k16 k17 k18 k19 k20 k21 k22 k23 k24 k25 k26 k27 k28 k29 k30 k31) 9=k9 from byt_valB _ hb 9 (by simp),show byt (kv k0 k1 k2 k3 k4 k5 k6 k7 k8 k9 k10 k11 k12 k13 k14 k15 k16 k17 k18 k19 k20 k21 k22 k23 k24 k25 k26 k27 k28 k29 k30 k31) 10=k10 from byt_valB _ hb 10 (by simp),show byt (kv k0 k1 k2 k3 k4 k5 k6 k7 k8 k9 k10 k11 k12 k13 k14 k15 k16 k17 k18 k19 k20 k21 k22 k23 k24 k25 k26 k27 k28 k29 k30 k31) 11=k11 from byt_valB _ hb 11 (by simp),show byt (kv k0 k1 k2 k3 k4 k5 k6 k7 k8 k9 k10 k11 k12 k13 k14 k15 k16 k17 k18 k19 k20 k21 k22 k23 k24 k25 k26 k27 k28 k29 k30 k31) 12=k12 from byt_valB _ hb 12 (by simp),show byt (kv k0 k1 k2 k3 k4 k5 k6 k7 k8 k9 k10 k11 k12 k13 k14 k15 k16 k17 k18 k19 k20 k21 k22 k23 k24 k25 k26 k27 k28 k29 k30 k31) 13=k13 from byt_valB _ hb 13 (by simp),show byt (kv k0 k1 k2 k3 k4 k5 k6 k7 k8 k9 k10 k11 k12 k13 k14 k15 k16 k17 k18 k19 k20 k21 k22 k23 k24 k25 k26 k27 k28 k29 k30 k31) 14=k14 from byt_valB _ hb 14 (by simp),show byt (kv k0 k1 k2 k3 k4 k5 k6 k7 k8 k9 k10 k11 k12 k13 k14 k15 k16 k17 k18 k19 k20 k21 k22 k23 k24 k25 k26 k27 k28 k29 k30 k31) 15=k15 from byt_valB _ hb 15 (by simp),show byt (kv k0 k1 k2 k3 k4 k5 k6 k7 k8 k9 k10 k11 k12 k13 k14 k15 k16 k17 k18 k19 k20 k21 k22 k23 k24 k25 k26 k27 k28 k29 k30 k31) 16=k16 from byt_valB _ hb 16 (by simp),show byt (kv k0 k1 k2 k3 k4 k5 k6 k7 k8 k9 k10 k11 k12 k13 k14 k15 k16 k17 k18 k19 k20 k21 k22 k23 k24 k25 k26 k27 k28 k29 k30 k31) 17=k17 from byt_valB _ hb 17 (by simp),show byt (kv k0 k1 k2 k3 k4 k5 k6 k7 k8 k9 k10 k11 k12 k13 k14 k15 k16 k17 k18 k19 k20 k21 k22 k23 k24 k25 k26 k27 k28 k29 k30 k31) 18=k18 from byt_valB _ hb 18 (by simp),show byt (kv k0 k1 k2 k3 k4 k5 k6 k7 k8 k9 k10 k11 k12 k13 k14 k15 k16 k17 k18 k19 k20 k21 k22 k23 k24 k25 k26 k27 k28 k29 k30 k31) 19=k19 from byt_valB _ hb 19 (by simp),show byt (kv k0 k1 k2 k3 k4 k5 k6 k7 k8 k9 k10 k11 k12 k13 k14 k15 k16 k17 k18 k19 k20 k21 k22 k23 k24 k25 k26 k27 k28 k29 k30 k31) 20=k20 from byt_valB _ hb 20 (by simp),show byt (kv k0 k1 k2 k3 k4 k5 k6 k7 k8 k9 k10 k11 k12 k13 k14 k15 k16 k17 k18 k19 k20 k21 k22 k23 k24 k25 k26 k27 k28 k29 k30 k31) 21=k21 from byt_valB _ hb 21 (by simp),show byt (kv k0 k1 k2 k3 k4 k5 k6 k7 k8 k9 k10 k11 k12 k13 k14 k15 k16 k17 k18 k19 k20 k21 k22 k23 k24 k25 k26 k27 k28 k29 k30 k31) 22=k22 from byt_valB _ hb 22 (by simp),show byt (kv k0 k1 k2 k3 k4 k5 k6 k7 k8 k9 k10 k11 k12 k13 k14 k15 k16 k17 k18 k19 k20 k21 k22 k23 k24 k25 k26 k27 k28 k29 k30 k31) 23=k23 from byt_valB _ hb 23 (by simp),show byt (kv k0 k1 k2 k3 k4 k5 k6 k7 k8 k9 k10 k11 k12 k13 k14 k15 k16 k17 k18 k19 k20 k21 k22 k23 k24 k25 k26 k27 k28 k29 k30 k31) 24=k24 from byt_valB _ hb 24 (by simp),show byt (kv k0 k1 k2 k3 k4 k5 k6 k7 k8 k9 k10 k11 k12 k13 k14 k15 k16 k17 k18 k19 k20 k21 k22 k23 k24 k25 k26 k27 k28 k29 k30 k31) 25=k25 from byt_valB _ hb 25 (by simp),show byt (kv k0 k1 k2 k3 k4 k5 k6 k7 k8 k9 k10 k11 k12 k13 k14 k15 k16 k17 k18 k19 k20 k21 k22 k23 k24 k25 k26 k27 k28 k29 k30 k31) 26=k26 from byt_valB _ hb 26 (by simp),show byt (kv k0 k1 k2 k3 k4 k5 k6 k7 k8 k9 k10 k11 k12 k13 k14 k15 k16 k17 k18 k19 k20 k21 k22 k23 k24 k25 k26 k27 k28 k29 k30 k31) 27=k27 from byt_valB _ hb 27 (by simp),show byt (kv k0 k1 k2 k3 k4 k5 k6 k7 k8 k9 k10 k11 k12 k13 k14 k15 k16 k17 k18 k19 k20 k21 k22 k23 k24 k25 k26 k27 k28 k29 k30 k31) 28=k28 from byt_valB _ hb 28 (by simp),show byt (kv k0 k1 k2 k3 k4 k5 k6 k7 k8 k9 k10 k11 k12 k13 k14 k15 k16 k17 k18 k19 k20 k21 k22 k23 k24 k25 k26 k27 k28 k29 k30 k31) 29=k29 from byt_valB _ hb 29 (by simp),show byt (kv k0 k1 k2 k3 k4 k5 k6 k7 k8 k9 k10 k11 k12 k13 k14 k15 k16 k17 k18 k19 k20 k21 k22 k23 k24 k25 k26 k27 k28 k29 k30 k31) 30=k30 from byt_valB _ hb 30 (by simp),show byt (kv k0 k1 k2 k3 k4 k5 k6 k7 k8 k9 k10 k11 k12 k13 k14 k15 k16 k17 k18 k19 k20 k21 k22 k23 k24 k25 k26 k27 k28 k29 k30 k31) 31=k31 from byt_valB _ hb 31 (by simp)]
theorem key_top {r:Array Value} {N:Int} (h:KeyOf r N):byt N 31=N/452312848583266388373324160190187140051835877600158453279131187530910662656∧∀b,0≤b∧b<256→r.setIfInBounds 31 (.int .u8 b)=kb (N%452312848583266388373324160190187140051835877600158453279131187530910662656+452312848583266388373324160190187140051835877600158453279131187530910662656*b):=by
 obtain⟨k0,k1,k2,k3,k4,k5,k6,k7,k8,k9,k10,k11,k12,k13,k14,k15,k16,k17,k18,k19,k20,k21,k22,k23,k24,k25,k26,k27,k28,k29,k30,k31,rfl,⟨h0,h1,h2,h3,h4,h5,h6,h7,h8,h9,h10,h11,h12,h13,h14,h15,h16,h17,h18,h19,h20,h21,h22,h23,h24,h25,h26,h27,h28,h29,h30,h31⟩,rfl⟩:=h;have hb:=all32' h0 h1 h2 h3 h4 h5 h6 h7 h8 h9 h10 h11 h12 h13 h14 h15 h16 h17 h18 h19 h20 h21 h22 h23 h24 h25 h26 h27 h28 h29 h30 h31
 have e:∀x,kv k0 k1 k2 k3 k4 k5 k6 k7 k8 k9 k10 k11 k12 k13 k14 k15 k16 k17 k18 k19 k20 k21 k22 k23 k24 k25 k26 k27 k28 k29 k30 x=valB [k0,k1,k2,k3,k4,k5,k6,k7,k8,k9,k10,k11,k12,k13,k14,k15,k16,k17,k18,k19,k20,k21,k22,k23,k24,k25,k26,k27,k28,k29,k30]+452312848583266388373324160190187140051835877600158453279131187530910662656*x:=by intro x;simp only[kv,valB];omega
 have b31:0≤valB [k0,k1,k2,k3,k4,k5,k6,k7,k8,k9,k10,k11,k12,k13,k14,k15,k16,k17,k18,k19,k20,k21,k22,k23,k24,k25,k26,k27,k28,k29,k30]∧valB [k0,k1,k2,k3,k4,k5,k6,k7,k8,k9,k10,k11,k12,k13,k14,k15,k16,k17,k18,k19,k20,k21,k22,k23,k24,k25,k26,k27,k28,k29,k30]<452312848583266388373324160190187140051835877600158453279131187530910662656:=by simp only[valB];omega
 refine⟨?_,fun b hbb=>?_⟩
 ·rw[show byt (kv k0 k1 k2 k3 k4 k5 k6 k7 k8 k9 k10 k11 k12 k13 k14 k15 k16 k17 k18 k19 k20 k21 k22 k23 k24 k25 k26 k27 k28 k29 k30 k31) 31=k31 from byt_valB _ hb 31 (by simp),e];omega
 ·have hN:kv k0 k1 k2 k3 k4 k5 k6 k7 k8 k9 k10 k11 k12 k13 k14 k15 k16 k17 k18 k19 k20 k21 k22 k23 k24 k25 k26 k27 k28 k29 k30 k31%452312848583266388373324160190187140051835877600158453279131187530910662656+452312848583266388373324160190187140051835877600158453279131187530910662656*b=kv k0 k1 k2 k3 k4 k5 k6 k7 k8 k9 k10 k11 k12 k13 k14 k15 k16 k17 k18 k19 k20 k21 k22 k23 k24 k25 k26 k27 k28 k29 k30 b:=by rw[e,e];omega
  rw[hN]
  exact key_is ⟨_,_,_,_,_,_,_,_,_,_,_,_,_,_,_,_,_,_,_,_,_,_,_,_,_,_,_,_,_,_,_,_,rfl,⟨h0,h1,h2,h3,h4,h5,h6,h7,h8,h9,h10,h11,h12,h13,h14,h15,h16,h17,h18,h19,h20,h21,h22,h23,h24,h25,h26,h27,h28,h29,h30,hbb⟩,rfl⟩
theorem kb_top (N:Int) (h0:0≤N) (h1:N<115792089237316195423570985008687907853269984665640564039457584007913129639936):byt N 31=N/452312848583266388373324160190187140051835877600158453279131187530910662656∧∀b,0≤b∧b<256→(kb N).setIfInBounds 31 (.int .u8 b)=kb (N%452312848583266388373324160190187140051835877600158453279131187530910662656+452312848583266388373324160190187140051835877600158453279131187530910662656*b):=key_top (kb_key N h0 h1)
theorem or128 (x:Int) (h:0≤x∧x<128):bits .or .u8 x 128=x+128:=by
 obtain⟨n,rfl⟩:=Int.eq_ofNat_of_zero_le h.1
 have:∀n:Nat,n<128→bits .or .u8 (n:Int) 128=(n:Int)+128:=by decide+kernel
 exact this n (by omega)
theorem and128 (x:Int) (h:0≤x∧x<256):bits .and .u8 x 128=if 128≤x then 128 else 0:=by
 obtain⟨n,rfl⟩:=Int.eq_ofNat_of_zero_le h.1
 have:∀n:Nat,n<256→bits .and .u8 (n:Int) 128=if 128≤(n:Int) then 128 else 0:=by decide+kernel
 exact this n (by omega)
theorem andNot128 (x:Int) (h:0≤x∧x<256):bits .andNot .u8 x 128=x%128:=by
 obtain⟨n,rfl⟩:=Int.eq_ofNat_of_zero_le h.1
 have:∀n:Nat,n<256→bits .andNot .u8 (n:Int) 128=(n:Int)%128:=by decide+kernel
 exact this n (by omega)
theorem a_sel {r s:Array Value} {x y:Int} (h:NumOf r x) (g:NumOf s y) (on:Bool):∃p q,NumOf p (if on=true then y else x)∧Gives 63 #[.agg r,.agg s,.bool on] (.tuple #[.agg p,.agg q]):=
 ⟨_,_,by cases on<;>assumption,a_swap h g on⟩
set_option maxRecDepth 100000 in
set_option maxHeartbeats 8000000 in
theorem a_or {r s:Array Value} {P Q:E1} (h:SpO r P) (g:SpO s Q) (on:Bool):∃t,SpO t (if on=true then Q else P)∧Gives 76 #[.agg r,.agg s,.bool on] (.agg t):=by
 obtain⟨xr,yr,zr,tr,X,Y,Z,T,rfl,hx,hy,hz,ht,hP⟩:=h;obtain⟨ur,vr,wr,sr,X2,Y2,Z2,T2,rfl,hu,hv,hww,hs,hQ⟩:=g;obtain⟨x1,y1,h1,c1⟩:=a_sel hx hu on;obtain⟨x3,y3,h3,c3⟩:=a_sel hy hv on;obtain⟨x5,y5,h5,c5⟩:=a_sel hz hww on;obtain⟨x7,y7,h7,c7⟩:=a_sel ht hs on
 refine⟨_,⟨x1,x3,x5,x7,_,_,_,_,rfl,h1,h3,h5,h7,by cases on<;>assumption⟩,fun w=>?_⟩
 have rp0:(((w.alloc (.cells (r4 xr yr zr tr) 75)).alloc (.cells (r4 ur vr wr sr) 75)).alloc (.cells q20 75)).heap[w.heap.size]? =some (.cells (r4 xr yr zr tr) 75 (0,0)):=hp3_0 w _ _ _;have rp1:(((w.alloc (.cells (r4 xr yr zr tr) 75)).alloc (.cells (r4 ur vr wr sr) 75)).alloc (.cells q20 75)).heap[w.heap.size+1]? =some (.cells (r4 ur vr wr sr) 75 (0,0)):=hp3_1 w _ _ _;have rp2:(((w.alloc (.cells (r4 xr yr zr tr) 75)).alloc (.cells (r4 ur vr wr sr) 75)).alloc (.cells q20 75)).heap[w.heap.size+1+1]? =some (.cells q20 75 (0,0)):=hp3_2 w _ _ _
 have hw:Below w.heap.size w (((w.alloc (.cells (r4 xr yr zr tr) 75)).alloc (.cells (r4 ur vr wr sr) 75)).alloc (.cells q20 75)):=((((Below.refl _ _).alloc (Nat.le_refl _) _).alloc (by simp) _).alloc (by simp;omega) _)
 go_enter Tryd.func76,Tryd.ntmps76
 iterate 12 go_step
 generalize (((w.alloc (.cells (r4 xr yr zr tr) 75)).alloc (.cells (r4 ur vr wr sr) 75)).alloc (.cells q20 75))=w0 at *
 go_wp2_with (first|(refine wpList_load_want rfl 75 _ rfl (w.heap.size) rfl 75 (r4 xr yr zr tr) (0,0) _ rp0 Tryd.underlying75 rfl (sp_info hx.size hy.size hz.size ht.size) ?_)|(refine wpList_load_want rfl 75 _ rfl (w.heap.size+1) rfl 75 (r4 ur vr wr sr) (0,0) _ rp1 Tryd.underlying75 rfl (sp_info hu.size hv.size hww.size hs.size) ?_)|(refine wpList_load_want rfl 75 _ rfl (w.heap.size+1+1) rfl 75 q20 (0,0) _ rp2 Tryd.underlying75 rfl (by kernel_rfl) ?_)|(refine wpList_load_part rfl 28 _ rfl (w.heap.size) 0 rfl 75 (r4 xr yr zr tr) (0,0) xr _ rp0 p_0 Tryd.underlying28 rfl hx.info ?_)|(refine wpList_load_part rfl 28 _ rfl (w.heap.size) 5 rfl 75 (r4 xr yr zr tr) (0,0) yr _ rp0 (p5_1 hx.size) Tryd.underlying28 rfl hy.info ?_)|(refine wpList_load_part rfl 28 _ rfl (w.heap.size) 10 rfl 75 (r4 xr yr zr tr) (0,0) zr _ rp0 (p5_2 hx.size hy.size) Tryd.underlying28 rfl hz.info ?_)|(refine wpList_load_part rfl 28 _ rfl (w.heap.size) 15 rfl 75 (r4 xr yr zr tr) (0,0) tr _ rp0 (p5_3 hx.size hy.size hz.size) Tryd.underlying28 rfl ht.info ?_)|(refine wpList_load_part rfl 28 _ rfl (w.heap.size+1) 0 rfl 75 (r4 ur vr wr sr) (0,0) ur _ rp1 p_0 Tryd.underlying28 rfl hu.info ?_)|(refine wpList_load_part rfl 28 _ rfl (w.heap.size+1) 5 rfl 75 (r4 ur vr wr sr) (0,0) vr _ rp1 (p5_1 hu.size) Tryd.underlying28 rfl hv.info ?_)|(refine wpList_load_part rfl 28 _ rfl (w.heap.size+1) 10 rfl 75 (r4 ur vr wr sr) (0,0) wr _ rp1 (p5_2 hu.size hv.size) Tryd.underlying28 rfl hww.info ?_)|(refine wpList_load_part rfl 28 _ rfl (w.heap.size+1) 15 rfl 75 (r4 ur vr wr sr) (0,0) sr _ rp1 (p5_3 hu.size hv.size hww.size) Tryd.underlying28 rfl hs.info ?_)|fail)
 refine(c1.at _).mono ?_;rintro e w2 ⟨rfl,hb⟩;replace rp0:=keep hb rp0;replace rp1:=keep hb rp1;replace rp2:=keep hb rp2;replace hw:=Below.after hw hb;clear hb
 go_wp2_with (first|(refine wpList_store_part rfl 28 _ _ rfl (w.heap.size) 0 x1 rfl rfl 75 (r4 xr yr zr tr) (r4 x1 yr zr tr) rp0 (by rw[nums_size hx.size hy.size hz.size ht.size,h1.size];decide) (ovw_0 hx.size hy.size hz.size ht.size h1.size) h1.info h1.one ?_;refine wpList_stay ?_)|fail)
 unfold WpStay
 replace rp1:=(setRow_other w2 (w.heap.size) (w.heap.size+1) (r4 x1 yr zr tr) (by first|assumption|omega)).trans rp1
 replace rp2:=(setRow_other w2 (w.heap.size) (w.heap.size+1+1) (r4 x1 yr zr tr) (by first|assumption|omega)).trans rp2
 replace rp0:=setRow_heap w2 (w.heap.size) _ (r4 x1 yr zr tr) _ _ rp0
 replace hw:=below_setRow hw (show w.heap.size≤w.heap.size by first|assumption|omega) (r4 x1 yr zr tr)
 generalize w2.setRow (w.heap.size) (r4 x1 yr zr tr)=wz0 at *
 go_wp2_with (first|(refine wpList_load_want rfl 75 _ rfl (w.heap.size) rfl 75 (r4 x1 yr zr tr) (0,0) _ rp0 Tryd.underlying75 rfl (sp_info h1.size hy.size hz.size ht.size) ?_)|(refine wpList_load_want rfl 75 _ rfl (w.heap.size+1) rfl 75 (r4 ur vr wr sr) (0,0) _ rp1 Tryd.underlying75 rfl (sp_info hu.size hv.size hww.size hs.size) ?_)|(refine wpList_load_want rfl 75 _ rfl (w.heap.size+1+1) rfl 75 q20 (0,0) _ rp2 Tryd.underlying75 rfl (by kernel_rfl) ?_)|(refine wpList_load_part rfl 28 _ rfl (w.heap.size) 0 rfl 75 (r4 x1 yr zr tr) (0,0) x1 _ rp0 p_0 Tryd.underlying28 rfl h1.info ?_)|(refine wpList_load_part rfl 28 _ rfl (w.heap.size) 5 rfl 75 (r4 x1 yr zr tr) (0,0) yr _ rp0 (p5_1 h1.size) Tryd.underlying28 rfl hy.info ?_)|(refine wpList_load_part rfl 28 _ rfl (w.heap.size) 10 rfl 75 (r4 x1 yr zr tr) (0,0) zr _ rp0 (p5_2 h1.size hy.size) Tryd.underlying28 rfl hz.info ?_)|(refine wpList_load_part rfl 28 _ rfl (w.heap.size) 15 rfl 75 (r4 x1 yr zr tr) (0,0) tr _ rp0 (p5_3 h1.size hy.size hz.size) Tryd.underlying28 rfl ht.info ?_)|(refine wpList_load_part rfl 28 _ rfl (w.heap.size+1) 0 rfl 75 (r4 ur vr wr sr) (0,0) ur _ rp1 p_0 Tryd.underlying28 rfl hu.info ?_)|(refine wpList_load_part rfl 28 _ rfl (w.heap.size+1) 5 rfl 75 (r4 ur vr wr sr) (0,0) vr _ rp1 (p5_1 hu.size) Tryd.underlying28 rfl hv.info ?_)|(refine wpList_load_part rfl 28 _ rfl (w.heap.size+1) 10 rfl 75 (r4 ur vr wr sr) (0,0) wr _ rp1 (p5_2 hu.size hv.size) Tryd.underlying28 rfl hww.info ?_)|(refine wpList_load_part rfl 28 _ rfl (w.heap.size+1) 15 rfl 75 (r4 ur vr wr sr) (0,0) sr _ rp1 (p5_3 hu.size hv.size hww.size) Tryd.underlying28 rfl hs.info ?_)|fail)
 refine(c3.at _).mono ?_;rintro e w4 ⟨rfl,hb⟩;replace rp0:=keep hb rp0;replace rp1:=keep hb rp1;replace rp2:=keep hb rp2;replace hw:=Below.after hw hb;clear hb
 go_wp2_with (first|(refine wpList_store_part rfl 28 _ _ rfl (w.heap.size) 5 x3 rfl rfl 75 (r4 x1 yr zr tr) (r4 x1 x3 zr tr) rp0 (by rw[nums_size h1.size hy.size hz.size ht.size,h3.size];decide) (ovw_1 h1.size hy.size hz.size ht.size h3.size) h3.info h3.one ?_;refine wpList_stay ?_)|fail)
 unfold WpStay
 replace rp1:=(setRow_other w4 (w.heap.size) (w.heap.size+1) (r4 x1 x3 zr tr) (by first|assumption|omega)).trans rp1
 replace rp2:=(setRow_other w4 (w.heap.size) (w.heap.size+1+1) (r4 x1 x3 zr tr) (by first|assumption|omega)).trans rp2
 replace rp0:=setRow_heap w4 (w.heap.size) _ (r4 x1 x3 zr tr) _ _ rp0
 replace hw:=below_setRow hw (show w.heap.size≤w.heap.size by first|assumption|omega) (r4 x1 x3 zr tr)
 generalize w4.setRow (w.heap.size) (r4 x1 x3 zr tr)=wz1 at *
 go_wp2_with (first|(refine wpList_load_want rfl 75 _ rfl (w.heap.size) rfl 75 (r4 x1 x3 zr tr) (0,0) _ rp0 Tryd.underlying75 rfl (sp_info h1.size h3.size hz.size ht.size) ?_)|(refine wpList_load_want rfl 75 _ rfl (w.heap.size+1) rfl 75 (r4 ur vr wr sr) (0,0) _ rp1 Tryd.underlying75 rfl (sp_info hu.size hv.size hww.size hs.size) ?_)|(refine wpList_load_want rfl 75 _ rfl (w.heap.size+1+1) rfl 75 q20 (0,0) _ rp2 Tryd.underlying75 rfl (by kernel_rfl) ?_)|(refine wpList_load_part rfl 28 _ rfl (w.heap.size) 0 rfl 75 (r4 x1 x3 zr tr) (0,0) x1 _ rp0 p_0 Tryd.underlying28 rfl h1.info ?_)|(refine wpList_load_part rfl 28 _ rfl (w.heap.size) 5 rfl 75 (r4 x1 x3 zr tr) (0,0) x3 _ rp0 (p5_1 h1.size) Tryd.underlying28 rfl h3.info ?_)|(refine wpList_load_part rfl 28 _ rfl (w.heap.size) 10 rfl 75 (r4 x1 x3 zr tr) (0,0) zr _ rp0 (p5_2 h1.size h3.size) Tryd.underlying28 rfl hz.info ?_)|(refine wpList_load_part rfl 28 _ rfl (w.heap.size) 15 rfl 75 (r4 x1 x3 zr tr) (0,0) tr _ rp0 (p5_3 h1.size h3.size hz.size) Tryd.underlying28 rfl ht.info ?_)|(refine wpList_load_part rfl 28 _ rfl (w.heap.size+1) 0 rfl 75 (r4 ur vr wr sr) (0,0) ur _ rp1 p_0 Tryd.underlying28 rfl hu.info ?_)|(refine wpList_load_part rfl 28 _ rfl (w.heap.size+1) 5 rfl 75 (r4 ur vr wr sr) (0,0) vr _ rp1 (p5_1 hu.size) Tryd.underlying28 rfl hv.info ?_)|(refine wpList_load_part rfl 28 _ rfl (w.heap.size+1) 10 rfl 75 (r4 ur vr wr sr) (0,0) wr _ rp1 (p5_2 hu.size hv.size) Tryd.underlying28 rfl hww.info ?_)|(refine wpList_load_part rfl 28 _ rfl (w.heap.size+1) 15 rfl 75 (r4 ur vr wr sr) (0,0) sr _ rp1 (p5_3 hu.size hv.size hww.size) Tryd.underlying28 rfl hs.info ?_)|fail)
 refine(c5.at _).mono ?_;rintro e w6 ⟨rfl,hb⟩;replace rp0:=keep hb rp0;replace rp1:=keep hb rp1;replace rp2:=keep hb rp2;replace hw:=Below.after hw hb;clear hb
 go_wp2_with (first|(refine wpList_store_part rfl 28 _ _ rfl (w.heap.size) 10 x5 rfl rfl 75 (r4 x1 x3 zr tr) (r4 x1 x3 x5 tr) rp0 (by rw[nums_size h1.size h3.size hz.size ht.size,h5.size];decide) (ovw_2 h1.size h3.size hz.size ht.size h5.size) h5.info h5.one ?_;refine wpList_stay ?_)|fail)
 unfold WpStay
 replace rp1:=(setRow_other w6 (w.heap.size) (w.heap.size+1) (r4 x1 x3 x5 tr) (by first|assumption|omega)).trans rp1
 replace rp2:=(setRow_other w6 (w.heap.size) (w.heap.size+1+1) (r4 x1 x3 x5 tr) (by first|assumption|omega)).trans rp2
 replace rp0:=setRow_heap w6 (w.heap.size) _ (r4 x1 x3 x5 tr) _ _ rp0
 replace hw:=below_setRow hw (show w.heap.size≤w.heap.size by first|assumption|omega) (r4 x1 x3 x5 tr)
 generalize w6.setRow (w.heap.size) (r4 x1 x3 x5 tr)=wz2 at *
 go_wp2_with (first|(refine wpList_load_want rfl 75 _ rfl (w.heap.size) rfl 75 (r4 x1 x3 x5 tr) (0,0) _ rp0 Tryd.underlying75 rfl (sp_info h1.size h3.size h5.size ht.size) ?_)|(refine wpList_load_want rfl 75 _ rfl (w.heap.size+1) rfl 75 (r4 ur vr wr sr) (0,0) _ rp1 Tryd.underlying75 rfl (sp_info hu.size hv.size hww.size hs.size) ?_)|(refine wpList_load_want rfl 75 _ rfl (w.heap.size+1+1) rfl 75 q20 (0,0) _ rp2 Tryd.underlying75 rfl (by kernel_rfl) ?_)|(refine wpList_load_part rfl 28 _ rfl (w.heap.size) 0 rfl 75 (r4 x1 x3 x5 tr) (0,0) x1 _ rp0 p_0 Tryd.underlying28 rfl h1.info ?_)|(refine wpList_load_part rfl 28 _ rfl (w.heap.size) 5 rfl 75 (r4 x1 x3 x5 tr) (0,0) x3 _ rp0 (p5_1 h1.size) Tryd.underlying28 rfl h3.info ?_)|(refine wpList_load_part rfl 28 _ rfl (w.heap.size) 10 rfl 75 (r4 x1 x3 x5 tr) (0,0) x5 _ rp0 (p5_2 h1.size h3.size) Tryd.underlying28 rfl h5.info ?_)|(refine wpList_load_part rfl 28 _ rfl (w.heap.size) 15 rfl 75 (r4 x1 x3 x5 tr) (0,0) tr _ rp0 (p5_3 h1.size h3.size h5.size) Tryd.underlying28 rfl ht.info ?_)|(refine wpList_load_part rfl 28 _ rfl (w.heap.size+1) 0 rfl 75 (r4 ur vr wr sr) (0,0) ur _ rp1 p_0 Tryd.underlying28 rfl hu.info ?_)|(refine wpList_load_part rfl 28 _ rfl (w.heap.size+1) 5 rfl 75 (r4 ur vr wr sr) (0,0) vr _ rp1 (p5_1 hu.size) Tryd.underlying28 rfl hv.info ?_)|(refine wpList_load_part rfl 28 _ rfl (w.heap.size+1) 10 rfl 75 (r4 ur vr wr sr) (0,0) wr _ rp1 (p5_2 hu.size hv.size) Tryd.underlying28 rfl hww.info ?_)|(refine wpList_load_part rfl 28 _ rfl (w.heap.size+1) 15 rfl 75 (r4 ur vr wr sr) (0,0) sr _ rp1 (p5_3 hu.size hv.size hww.size) Tryd.underlying28 rfl hs.info ?_)|fail)
 refine(c7.at _).mono ?_;rintro e w8 ⟨rfl,hb⟩;replace rp0:=keep hb rp0;replace rp1:=keep hb rp1;replace rp2:=keep hb rp2;replace hw:=Below.after hw hb;clear hb
 go_wp2_with (first|(refine wpList_store_part rfl 28 _ _ rfl (w.heap.size) 15 x7 rfl rfl 75 (r4 x1 x3 x5 tr) (r4 x1 x3 x5 x7) rp0 (by rw[nums_size h1.size h3.size h5.size ht.size,h7.size];decide) (ovw_3 h1.size h3.size h5.size ht.size h7.size) h7.info h7.one ?_;refine wpList_stay ?_)|fail)
 unfold WpStay
 replace rp1:=(setRow_other w8 (w.heap.size) (w.heap.size+1) (r4 x1 x3 x5 x7) (by first|assumption|omega)).trans rp1
 replace rp2:=(setRow_other w8 (w.heap.size) (w.heap.size+1+1) (r4 x1 x3 x5 x7) (by first|assumption|omega)).trans rp2
 replace rp0:=setRow_heap w8 (w.heap.size) _ (r4 x1 x3 x5 x7) _ _ rp0
 replace hw:=below_setRow hw (show w.heap.size≤w.heap.size by first|assumption|omega) (r4 x1 x3 x5 x7)
 generalize w8.setRow (w.heap.size) (r4 x1 x3 x5 x7)=wz3 at *
 go_wp2_with (first|(refine wpList_store_row rfl 75 _ _ rfl (w.heap.size+1+1) (r4 x1 x3 x5 x7) rfl rfl 75 _ rp2 (sp_info h1.size h3.size h5.size h7.size) ((show _=20 from rfl).trans (nums_size h1.size h3.size h5.size h7.size).symm) (r4_one h1.one h3.one h5.one h7.one) ?_)|(refine wpList_load_want rfl 75 _ rfl (w.heap.size) rfl 75 (r4 x1 x3 x5 x7) (0,0) _ rp0 Tryd.underlying75 rfl (sp_info h1.size h3.size h5.size h7.size) ?_)|(refine wpList_load_want rfl 75 _ rfl (w.heap.size+1) rfl 75 (r4 ur vr wr sr) (0,0) _ rp1 Tryd.underlying75 rfl (sp_info hu.size hv.size hww.size hs.size) ?_)|(refine wpList_load_want rfl 75 _ rfl (w.heap.size+1+1) rfl 75 q20 (0,0) _ rp2 Tryd.underlying75 rfl (by kernel_rfl) ?_)|(refine wpList_load_part rfl 28 _ rfl (w.heap.size) 0 rfl 75 (r4 x1 x3 x5 x7) (0,0) x1 _ rp0 p_0 Tryd.underlying28 rfl h1.info ?_)|(refine wpList_load_part rfl 28 _ rfl (w.heap.size) 5 rfl 75 (r4 x1 x3 x5 x7) (0,0) x3 _ rp0 (p5_1 h1.size) Tryd.underlying28 rfl h3.info ?_)|(refine wpList_load_part rfl 28 _ rfl (w.heap.size) 10 rfl 75 (r4 x1 x3 x5 x7) (0,0) x5 _ rp0 (p5_2 h1.size h3.size) Tryd.underlying28 rfl h5.info ?_)|(refine wpList_load_part rfl 28 _ rfl (w.heap.size) 15 rfl 75 (r4 x1 x3 x5 x7) (0,0) x7 _ rp0 (p5_3 h1.size h3.size h5.size) Tryd.underlying28 rfl h7.info ?_)|(refine wpList_load_part rfl 28 _ rfl (w.heap.size+1) 0 rfl 75 (r4 ur vr wr sr) (0,0) ur _ rp1 p_0 Tryd.underlying28 rfl hu.info ?_)|(refine wpList_load_part rfl 28 _ rfl (w.heap.size+1) 5 rfl 75 (r4 ur vr wr sr) (0,0) vr _ rp1 (p5_1 hu.size) Tryd.underlying28 rfl hv.info ?_)|(refine wpList_load_part rfl 28 _ rfl (w.heap.size+1) 10 rfl 75 (r4 ur vr wr sr) (0,0) wr _ rp1 (p5_2 hu.size hv.size) Tryd.underlying28 rfl hww.info ?_)|(refine wpList_load_part rfl 28 _ rfl (w.heap.size+1) 15 rfl 75 (r4 ur vr wr sr) (0,0) sr _ rp1 (p5_3 hu.size hv.size hww.size) Tryd.underlying28 rfl hs.info ?_)|fail)
 exact bodyPost_ret (v:=.agg (r4 x1 x3 x5 x7)) (results_cell_row Tryd.results76 _ _ (w.heap.size+1+1) _ (r4 x1 x3 x5 x7) _ _ rfl (setRow_heap _ _ _ _ _ _ rp2) Tryd.underlying75 rfl (sp_info h1.size h3.size h5.size h7.size)) rfl ⟨rfl,below_setRow hw (by omega) _⟩
theorem y_key (P:E1):KeyOf (kb P.y) P.y:=by have:=kb_mod P.y;rw[P.hy] at this;exact this
set_option maxRecDepth 100000 in
set_option maxHeartbeats 8000000 in
theorem a_Bytes {r:Array Value} {P:E1} (h:PtO r P):Gives 9 #[.agg r] (.agg (kb (pb P))):=by
 obtain⟨_,⟨xr,yr,zr,tr,X,Y,Z,T,rfl,hx,hy,hz,ht,hP⟩,c1⟩:=a_spot h;obtain⟨x3,h3,c3⟩:=a_inv hz;obtain⟨x5,h5,c5⟩:=a_mul hy h3;have c7:=a_bytes h5;rw[sp_y hP] at c7;have hkey:=y_key P;obtain⟨x9,h9,c9⟩:=a_mul hx h3;have c11:=a_odd_ev h9;rw[sp_x hP] at c11;intro w;have rp0:((w.alloc (.cells r 30)).alloc (.cells q32 23)).heap[w.heap.size]? =some (.cells r 30 (0,0)):=hp2_0 w _ _;have rp1:((w.alloc (.cells r 30)).alloc (.cells q32 23)).heap[w.heap.size+1]? =some (.cells q32 23 (0,0)):=hp2_1 w _ _
 have hw:Below w.heap.size w ((w.alloc (.cells r 30)).alloc (.cells q32 23)):=(((Below.refl _ _).alloc (Nat.le_refl _) _).alloc (by simp) _)
 go_enter Tryd.func9,Tryd.ntmps9
 iterate 9 go_step
 generalize ((w.alloc (.cells r 30)).alloc (.cells q32 23))=w0 at *
 go_wp2_with (first|(refine wpList_load_want rfl 30 _ rfl (w.heap.size) rfl 30 r (0,0) _ rp0 Tryd.underlying30 rfl h.info ?_)|(refine wpList_load_want rfl 23 _ rfl (w.heap.size+1) rfl 23 q32 (0,0) _ rp1 Tryd.underlying23 rfl key_info ?_)|fail)
 refine(c1.at _).mono ?_;rintro e w2 ⟨rfl,hb⟩;replace rp0:=keep hb rp0;replace rp1:=keep hb rp1;replace hw:=Below.after hw hb;clear hb
 go_wp2_with (first|(refine wpList_store_row rfl 75 _ _ rfl (w2.heap.size) (r4 xr yr zr tr) rfl rfl 75 q20 (hp1_0 w2 _) (sp_info hx.size hy.size hz.size ht.size) (nums_size hx.size hy.size hz.size ht.size).symm (r4_one hx.one hy.one hz.one ht.one) ?_;rw[setRow_alloc_new _ _ _ _ _ _ (by simp)];refine wpList_stay ?_)|fail)
 unfold WpStay
 try simp only[Act.put]
 have rl3:(w2.alloc (.cells (r4 xr yr zr tr) 75)).heap[w2.heap.size]? =some (.cells (r4 xr yr zr tr) 75 (0,0)):=hp1_0 w2 _;have hb:Below w2.heap.size w2 (w2.alloc (.cells (r4 xr yr zr tr) 75)):=((Below.refl _ _).alloc (Nat.le_refl _) _)
 generalize (w2.alloc (.cells (r4 xr yr zr tr) 75))=wo at *
 have ygo_0:=lt_of_row rp0;have ygo_1:=lt_of_row rp1;have ygo:=hw.size;replace rp0:=keep hb rp0;replace rp1:=keep hb rp1;replace hw:=Below.after hw hb;clear hb
 generalize w2.heap.size=go at *
 clear w2
 go_wp2_with (first|(refine wpList_load_want rfl 30 _ rfl (w.heap.size) rfl 30 r (0,0) _ rp0 Tryd.underlying30 rfl h.info ?_)|(refine wpList_load_want rfl 23 _ rfl (w.heap.size+1) rfl 23 q32 (0,0) _ rp1 Tryd.underlying23 rfl key_info ?_)|(refine wpList_load_want rfl 75 _ rfl (go) rfl 75 (r4 xr yr zr tr) (0,0) _ rl3 Tryd.underlying75 rfl (sp_info hx.size hy.size hz.size ht.size) ?_)|(refine wpList_load_part rfl 28 _ rfl (go) 0 rfl 75 (r4 xr yr zr tr) (0,0) xr _ rl3 p_0 Tryd.underlying28 rfl hx.info ?_)|(refine wpList_load_part rfl 28 _ rfl (go) 5 rfl 75 (r4 xr yr zr tr) (0,0) yr _ rl3 (p5_1 hx.size) Tryd.underlying28 rfl hy.info ?_)|(refine wpList_load_part rfl 28 _ rfl (go) 10 rfl 75 (r4 xr yr zr tr) (0,0) zr _ rl3 (p5_2 hx.size hy.size) Tryd.underlying28 rfl hz.info ?_)|(refine wpList_load_part rfl 28 _ rfl (go) 15 rfl 75 (r4 xr yr zr tr) (0,0) tr _ rl3 (p5_3 hx.size hy.size hz.size) Tryd.underlying28 rfl ht.info ?_)|fail)
 refine(c3.at _).mono ?_;rintro e w4 ⟨rfl,hb⟩;replace rp0:=keep hb rp0;replace rp1:=keep hb rp1;replace rl3:=keep hb rl3;replace hw:=Below.after hw hb;clear hb
 go_wp2_with (first|(refine wpList_store_row rfl 28 _ _ rfl (w4.heap.size) x3 rfl rfl 28 #[.int .u64 0,.int .u64 0,.int .u64 0,.int .u64 0,.int .u64 0] (hp1_0 w4 _) h3.info (h3.fits rfl) h3.one ?_;rw[setRow_alloc_new _ _ _ _ _ _ (by simp)];refine wpList_stay ?_)|fail)
 unfold WpStay
 try simp only[Act.put]
 have rl4:(w4.alloc (.cells x3 28)).heap[w4.heap.size]? =some (.cells x3 28 (0,0)):=hp1_0 w4 _;have hb:Below w4.heap.size w4 (w4.alloc (.cells x3 28)):=((Below.refl _ _).alloc (Nat.le_refl _) _)
 generalize (w4.alloc (.cells x3 28))=wi at *
 have ygi_0:=lt_of_row rp0;have ygi_1:=lt_of_row rp1;have ygi_2:=lt_of_row rl3;have ygi:=hw.size;replace rp0:=keep hb rp0;replace rp1:=keep hb rp1;replace rl3:=keep hb rl3;replace hw:=Below.after hw hb;clear hb
 generalize w4.heap.size=gi at *
 clear w4
 go_wp2_with (first|(refine wpList_load_want rfl 30 _ rfl (w.heap.size) rfl 30 r (0,0) _ rp0 Tryd.underlying30 rfl h.info ?_)|(refine wpList_load_want rfl 23 _ rfl (w.heap.size+1) rfl 23 q32 (0,0) _ rp1 Tryd.underlying23 rfl key_info ?_)|(refine wpList_load_want rfl 75 _ rfl (go) rfl 75 (r4 xr yr zr tr) (0,0) _ rl3 Tryd.underlying75 rfl (sp_info hx.size hy.size hz.size ht.size) ?_)|(refine wpList_load_want rfl 28 _ rfl (gi) rfl 28 x3 (0,0) _ rl4 Tryd.underlying28 rfl h3.info ?_)|(refine wpList_load_part rfl 28 _ rfl (go) 0 rfl 75 (r4 xr yr zr tr) (0,0) xr _ rl3 p_0 Tryd.underlying28 rfl hx.info ?_)|(refine wpList_load_part rfl 28 _ rfl (go) 5 rfl 75 (r4 xr yr zr tr) (0,0) yr _ rl3 (p5_1 hx.size) Tryd.underlying28 rfl hy.info ?_)|(refine wpList_load_part rfl 28 _ rfl (go) 10 rfl 75 (r4 xr yr zr tr) (0,0) zr _ rl3 (p5_2 hx.size hy.size) Tryd.underlying28 rfl hz.info ?_)|(refine wpList_load_part rfl 28 _ rfl (go) 15 rfl 75 (r4 xr yr zr tr) (0,0) tr _ rl3 (p5_3 hx.size hy.size hz.size) Tryd.underlying28 rfl ht.info ?_)|fail)
 refine(c5.at _).mono ?_;rintro e w6 ⟨rfl,hb⟩;replace rp0:=keep hb rp0;replace rp1:=keep hb rp1;replace rl3:=keep hb rl3;replace rl4:=keep hb rl4;replace hw:=Below.after hw hb;clear hb
 go_wp2_with (first|(refine wpList_load_want rfl 30 _ rfl (w.heap.size) rfl 30 r (0,0) _ rp0 Tryd.underlying30 rfl h.info ?_)|(refine wpList_load_want rfl 23 _ rfl (w.heap.size+1) rfl 23 q32 (0,0) _ rp1 Tryd.underlying23 rfl key_info ?_)|(refine wpList_load_want rfl 75 _ rfl (go) rfl 75 (r4 xr yr zr tr) (0,0) _ rl3 Tryd.underlying75 rfl (sp_info hx.size hy.size hz.size ht.size) ?_)|(refine wpList_load_want rfl 28 _ rfl (gi) rfl 28 x3 (0,0) _ rl4 Tryd.underlying28 rfl h3.info ?_)|(refine wpList_load_part rfl 28 _ rfl (go) 0 rfl 75 (r4 xr yr zr tr) (0,0) xr _ rl3 p_0 Tryd.underlying28 rfl hx.info ?_)|(refine wpList_load_part rfl 28 _ rfl (go) 5 rfl 75 (r4 xr yr zr tr) (0,0) yr _ rl3 (p5_1 hx.size) Tryd.underlying28 rfl hy.info ?_)|(refine wpList_load_part rfl 28 _ rfl (go) 10 rfl 75 (r4 xr yr zr tr) (0,0) zr _ rl3 (p5_2 hx.size hy.size) Tryd.underlying28 rfl hz.info ?_)|(refine wpList_load_part rfl 28 _ rfl (go) 15 rfl 75 (r4 xr yr zr tr) (0,0) tr _ rl3 (p5_3 hx.size hy.size hz.size) Tryd.underlying28 rfl ht.info ?_)|fail)
 refine(c7.at _).mono ?_;rintro e w8 ⟨rfl,hb⟩;replace rp0:=keep hb rp0;replace rp1:=keep hb rp1;replace rl3:=keep hb rl3;replace rl4:=keep hb rl4;replace hw:=Below.after hw hb;clear hb
 go_wp2_with (first|(refine wpList_store_row rfl 23 _ _ rfl (w8.heap.size) (kb P.y) rfl rfl 23 q32 (hp1_0 w8 _) hkey.info (hkey.size).symm hkey.one ?_;rw[setRow_alloc_new _ _ _ _ _ _ (by simp)];refine wpList_stay ?_)|fail)
 unfold WpStay
 try simp only[Act.put]
 have rl5:(w8.alloc (.cells (kb P.y) 23)).heap[w8.heap.size]? =some (.cells (kb P.y) 23 (0,0)):=hp1_0 w8 _;have hb:Below w8.heap.size w8 (w8.alloc (.cells (kb P.y) 23)):=((Below.refl _ _).alloc (Nat.le_refl _) _)
 generalize (w8.alloc (.cells (kb P.y) 23))=wk at *
 have ygk_0:=lt_of_row rp0;have ygk_1:=lt_of_row rp1;have ygk_2:=lt_of_row rl3;have ygk_3:=lt_of_row rl4;have ygk:=hw.size;replace rp0:=keep hb rp0;replace rp1:=keep hb rp1;replace rl3:=keep hb rl3;replace rl4:=keep hb rl4;replace hw:=Below.after hw hb;clear hb
 generalize w8.heap.size=gk at *
 clear w8
 go_wp2_with (first|(refine wpList_load_want rfl 30 _ rfl (w.heap.size) rfl 30 r (0,0) _ rp0 Tryd.underlying30 rfl h.info ?_)|(refine wpList_load_want rfl 23 _ rfl (w.heap.size+1) rfl 23 q32 (0,0) _ rp1 Tryd.underlying23 rfl key_info ?_)|(refine wpList_load_want rfl 75 _ rfl (go) rfl 75 (r4 xr yr zr tr) (0,0) _ rl3 Tryd.underlying75 rfl (sp_info hx.size hy.size hz.size ht.size) ?_)|(refine wpList_load_want rfl 28 _ rfl (gi) rfl 28 x3 (0,0) _ rl4 Tryd.underlying28 rfl h3.info ?_)|(refine wpList_load_want rfl 23 _ rfl (gk) rfl 23 (kb P.y) (0,0) _ rl5 Tryd.underlying23 rfl hkey.info ?_)|(refine wpList_load_part rfl 28 _ rfl (go) 0 rfl 75 (r4 xr yr zr tr) (0,0) xr _ rl3 p_0 Tryd.underlying28 rfl hx.info ?_)|(refine wpList_load_part rfl 28 _ rfl (go) 5 rfl 75 (r4 xr yr zr tr) (0,0) yr _ rl3 (p5_1 hx.size) Tryd.underlying28 rfl hy.info ?_)|(refine wpList_load_part rfl 28 _ rfl (go) 10 rfl 75 (r4 xr yr zr tr) (0,0) zr _ rl3 (p5_2 hx.size hy.size) Tryd.underlying28 rfl hz.info ?_)|(refine wpList_load_part rfl 28 _ rfl (go) 15 rfl 75 (r4 xr yr zr tr) (0,0) tr _ rl3 (p5_3 hx.size hy.size hz.size) Tryd.underlying28 rfl ht.info ?_)|fail)
 refine(c9.at _).mono ?_;rintro e w10 ⟨rfl,hb⟩;replace rp0:=keep hb rp0;replace rp1:=keep hb rp1;replace rl3:=keep hb rl3;replace rl4:=keep hb rl4;replace rl5:=keep hb rl5;replace hw:=Below.after hw hb;clear hb
 go_wp2_with (first|(refine wpList_load_want rfl 30 _ rfl (w.heap.size) rfl 30 r (0,0) _ rp0 Tryd.underlying30 rfl h.info ?_)|(refine wpList_load_want rfl 23 _ rfl (w.heap.size+1) rfl 23 q32 (0,0) _ rp1 Tryd.underlying23 rfl key_info ?_)|(refine wpList_load_want rfl 75 _ rfl (go) rfl 75 (r4 xr yr zr tr) (0,0) _ rl3 Tryd.underlying75 rfl (sp_info hx.size hy.size hz.size ht.size) ?_)|(refine wpList_load_want rfl 28 _ rfl (gi) rfl 28 x3 (0,0) _ rl4 Tryd.underlying28 rfl h3.info ?_)|(refine wpList_load_want rfl 23 _ rfl (gk) rfl 23 (kb P.y) (0,0) _ rl5 Tryd.underlying23 rfl hkey.info ?_)|(refine wpList_load_part rfl 28 _ rfl (go) 0 rfl 75 (r4 xr yr zr tr) (0,0) xr _ rl3 p_0 Tryd.underlying28 rfl hx.info ?_)|(refine wpList_load_part rfl 28 _ rfl (go) 5 rfl 75 (r4 xr yr zr tr) (0,0) yr _ rl3 (p5_1 hx.size) Tryd.underlying28 rfl hy.info ?_)|(refine wpList_load_part rfl 28 _ rfl (go) 10 rfl 75 (r4 xr yr zr tr) (0,0) zr _ rl3 (p5_2 hx.size hy.size) Tryd.underlying28 rfl hz.info ?_)|(refine wpList_load_part rfl 28 _ rfl (go) 15 rfl 75 (r4 xr yr zr tr) (0,0) tr _ rl3 (p5_3 hx.size hy.size hz.size) Tryd.underlying28 rfl ht.info ?_)|fail)
 refine(c11.at _).mono ?_;rintro e w12 ⟨rfl,hb⟩;replace rp0:=keep hb rp0;replace rp1:=keep hb rp1;replace rl3:=keep hb rl3;replace rl4:=keep hb rl4;replace rl5:=keep hb rl5;replace hw:=Below.after hw hb;clear hb;have hyb:=y_bd P
 have hp2:tx P%2=0∨tx P%2=1:=by omega
 have ht:=kb_top P.y hyb.1 (by rw[prm_is] at hyb;omega)
 by_cases ho:tx P%2=1
 ·have hd:decide (tx P%2=1)=true:=decide_eq_true ho
  rw[hd]
  have e1:bits .or .u8 (byt P.y 31) 128=P.y/452312848583266388373324160190187140051835877600158453279131187530910662656+128:=by rw[ht.1];exact or128 _ (by rw[prm_is] at hyb;omega)
  have e2:(kb P.y).setIfInBounds 31 (.int .u8 (P.y/452312848583266388373324160190187140051835877600158453279131187530910662656+128))=kb (pb P):=by
   rw[ht.2 _ (by rw[prm_is] at hyb;omega)]
   congr 1
   unfold pb;rw[ho];omega
  have c31:w12.cell? ⟨gk,31,none⟩=some (.int .u8 (byt P.y 31)):=cell_of_row w12 gk 31 _ _ _ rl5;have r1:=setRow_heap w12 gk _ (kb (pb P)) _ _ rl5;have lt_:=lt_of_row rp1
  have r2:=(setRow_other w12 gk (w.heap.size+1) (kb (pb P)) (by omega)).trans rp1
  have hw2:=below_setRow hw (show w.heap.size≤gk by omega) (kb (pb P))
  clear hyb hp2 ht ho hd
  go_wp2_with (first|(refine wpList_load_cell31 rfl 5 _ rfl gk 31 rfl _ c31 Tryd.underlying5 ?_)|(refine wpList_store_cell31 rfl 5 _ _ rfl gk 31 rfl (.int .u8 (P.y/452312848583266388373324160190187140051835877600158453279131187530910662656+128)) (by rw[←e1];rfl) 23 (kb P.y) rl5 (by rw[kb_size];decide) (by kernel_rfl) rfl ?_;rw[e2];refine wpList_stay ?_)|fail)
  unfold WpStay
  generalize w12.setRow gk (kb (pb P))=wq at *
  go_wp2_with (first|(refine wpList_load_want rfl 23 _ rfl gk rfl 23 (kb (pb P)) (0,0) _ r1 Tryd.underlying23 rfl (kb_info _) ?_)|(refine wpList_store_row rfl 23 _ _ rfl (w.heap.size+1) (kb (pb P)) rfl rfl 23 _ r2 (kb_info _) rfl (kb_one _) ?_)|fail)
  exact bodyPost_ret (v:=.agg (kb (pb P))) (results_cell_row Tryd.results9 _ _ (w.heap.size+1) _ (kb (pb P)) _ _ rfl (setRow_heap _ _ _ _ _ _ r2) Tryd.underlying23 rfl (kb_info _)) rfl ⟨rfl,below_setRow hw2 (by omega) _⟩
 ·have hd:decide (tx P%2=1)=false:=decide_eq_false ho
  rw[hd]
  have e2:P.y=pb P:=by
   unfold pb
   rw[(by omega:tx P%2=0)]
   omega
  have E2:=hide e2;clear hyb hp2 ht ho hd e2
  go_wp2_with (first|(refine wpList_load_want rfl 23 _ rfl gk rfl 23 (kb P.y) (0,0) _ rl5 Tryd.underlying23 rfl (kb_info _) ?_)|(refine wpList_store_row rfl 23 _ _ rfl (w.heap.size+1) (kb P.y) rfl rfl 23 _ rp1 (kb_info _) rfl (kb_one _) ?_)|fail)
  exact bodyPost_ret (v:=.agg (kb P.y)) (results_cell_row Tryd.results9 _ _ (w.heap.size+1) _ (kb P.y) _ _ rfl (setRow_heap _ _ _ _ _ _ rp1) Tryd.underlying23 rfl (kb_info _)) rfl ⟨by rw[←E2.out],below_setRow hw (by omega) _⟩
end Go.Proofs.YtdcpcdkbhgkmlaaDoor
namespace Go.Proofs.YtdcpcdkbhgkmlaaDoor
set_option maxRecDepth 100000
open Go.RowKit Go.Sort
attribute [local go_sem] setCell_drewN alloc_drewN
theorem ex1e {f:FuncId} {args:Array Value} {w:World} {v:Value} {Bp:World→Prop} (h:Calls Tryd.prog f args w fun e w'=>e=.returned v∧Bp w'):Calls Tryd.prog f args w fun e w'=>∃v',e=.returned v'∧v'=v∧Bp w':=h.mono fun _ _ ⟨a,b⟩=>⟨v,a,rfl,b⟩
theorem all_rowe (cs:Array Value):cs.extract 0 (0+cs.size)=cs:=by simp
section
variable {P : Program} {ops : Array Oper} {Q : Exit → Act → World → Prop} {md : Region.Mode} {S : World → Prop}
theorem eH_one {k:Nat} {o:Oper} {fuel:Nat} {listed:Array Bool} {a:Act} {w:World} (hr:Region.ready md ops listed=[k]) (hi:ops[k]? =some o) (hw:Region.wanted o (yielded ops a.tmps)=true)
 (h:∀K:Act→World→Prop,(∀a' w',S w'→wpAnyH P md ops Q S fuel (listed.setIfInBounds k true) a' w'→K a' w')→o.wp P a w K Q):wpAnyH P md ops Q S (fuel+1) listed a w:=by
 refine wpAnyH_all hr (by simp) (fun i hi'=>?_)
 obtain rfl:i=k:=by simpa using hi'
 unfold wpOp;simp only[hi,hw,if_true]
 exact .inl (h _ (fun a' w' hS hn=>⟨hS,hn⟩))
theorem eH_two {j k:Nat} {oj ok:Oper} {fuel:Nat} {listed:Array Bool} {a:Act} {w:World} (hr:Region.ready md ops listed=[j,k]) (hj:ops[j]? =some oj) (hk:ops[k]? =some ok) (wj:Region.wanted oj (yielded ops a.tmps)=true) (wk:Region.wanted ok (yielded ops a.tmps)=true)
 (h1:∀K:Act→World→Prop,(∀a' w',S w'→wpAnyH P md ops Q S fuel (listed.setIfInBounds j true) a' w'→K a' w')→oj.wp P a w K Q)
 (h2:∀K:Act→World→Prop,(∀a' w',S w'→wpAnyH P md ops Q S fuel (listed.setIfInBounds k true) a' w'→K a' w')→ok.wp P a w K Q):wpAnyH P md ops Q S (fuel+1) listed a w:=by
 refine wpAnyH_all hr (by simp) (fun i hi'=>?_)
 obtain rfl|rfl:i=j∨i=k:=by simpa using hi'
 ·unfold wpOp
  simp only[hj,wj,if_true]
  exact .inl (h1 _ (fun a' w' hS hn=>⟨hS,hn⟩))
 ·unfold wpOp
  simp only[hk,wk,if_true]
  exact .inl (h2 _ (fun a' w' hS hn=>⟨hS,hn⟩))
theorem e_load_part {o:Oper} {a:Act} {w:World} (ty:TypeId) (x:Operand) (ho:o.op=.load ty x) (g off:Nat) (hx:a.eval x=.pointer (some ⟨g,off,none⟩)) (t:TypeId) (cs:Array Value) (fr:Nat×Nat) (part:Array Value) (d:TypeDesc) (hg:w.heap[g]? =some (.cells cs t fr)) (hp:cs.extract off (off+part.size)=part)
 (hu:P.underlying ty=some d) (hd:d.isRow=true) (hi:(P.info? ty).map (·.size)=some part.size):(execOp a.eval o).run P w=.ok (.value (.agg part)) w:=by
 have hr:=World.rangeAt_of_block hg off part.size;rw[hp] at hr
 have hl:=run_loadVar_mid (P:=P) w g off ty part.toList d hr hu hd (by simpa using hi)
 unfold execOp;simp only[ho,hx,Instr.loadAt,Instr.sureAddr,Sem.run_bind,Sem.run_pure,Result.andThen_ok,hl]
end
theorem e_world_op {P:Program} {o:Oper} {a:Act} {w:World} {K:Act→World→Prop} {Q:Exit→Act→World→Prop} (v:Value) (w':World) (hx:(execOp a.eval o).run P w=.ok (.value v) w') (h:K (a.put o.dst v) w'):o.wp P a w K Q:=by
 unfold Oper.wp;rw[hx,Oper.upon_value];exact h
section
variable {P : Program} {ops : Array Oper} {Q : Exit → Act → World → Prop} {md : Region.Mode} {S : World → Prop}
end
end Go.Proofs.YtdcpcdkbhgkmlaaDoor
