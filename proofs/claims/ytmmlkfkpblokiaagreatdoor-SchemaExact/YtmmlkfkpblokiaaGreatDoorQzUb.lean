import Derived.Test.YtmmlkfkpblokiaaGreatDoorQzWj
set_option maxRecDepth 100000
set_option maxHeartbeats 16000000
namespace Go.Proofs.YtmmlkfkpblokiaaGreatDoor
open Go Go.RowKit Go.Sort
attribute [local go_sem] setCell_drewN alloc_drewN
def tyOf (k:Int):Int:=if k=2 then 5 else if k=3∨k=7 then 1 else if k=1∨k=4 then 0 else 2
theorem kind_cases (k:Int):k=1∨k=2∨k=3∨k=4∨k=5∨k=6∨k=7∨k=8∨k=9∨(k≠1∧k≠2∧k≠3∧k≠4∧k≠5∧k≠6∧k≠7∧k≠8∧k≠9):=by omega
theorem r_typeOf (k:Int):Gives 54 #[.int .i64 k] (.int .i64 (tyOf k)):=by
 intro w
 rcases kind_cases k with rfl|rfl|rfl|rfl|rfl|rfl|rfl|rfl|rfl|⟨h1,h2,h3,h4,h5,h6,h7,h8,h9⟩
 rotate_right
 ·have q1:(k==1)=false:=by simpa using h1
  have q2:(k==2)=false:=by simpa using h2
  have q3:(k==3)=false:=by simpa using h3
  have q4:(k==4)=false:=by simpa using h4
  have q7:(k==7)=false:=by simpa using h7
  have ht:tyOf k=2:=by unfold tyOf;rw[if_neg h2,if_neg (by omega),if_neg (by omega)]
  rw[ht];clear h1 h2 h3 h4 h5 h6 h7 h8 h9 ht
  go_enter Tryz.func54,Tryz.ntmps54
  go_wp2_with (fail)
  go_ret;exact⟨rfl,Below.refl _ _⟩
 all_goals
  go_enter Tryz.func54,Tryz.ntmps54
  go_wp2_with (fail)
  go_ret;exact⟨rfl,Below.refl _ _⟩
def cpd (n:Nat):Nat:=if 4194305<n then 4194305 else n
theorem cpd_le (n:Nat):cpd n≤4194305:=by unfold cpd;split<;>omega
theorem r_capped (n:Nat):Gives 66 #[.int .i64 (n:Int)] (.int .i64 (cpd n:Int)):=by
 intro w
 by_cases h:4194305<n
 ·have d1:decide ((n:Int)>4194305)=true:=by simp;omega
  have e:cpd n=4194305:=if_pos h
  rw[e];clear e h
  go_enter Tryz.func66,Tryz.ntmps66
  go_wp2_with (fail)
  go_ret;exact⟨rfl,Below.refl _ _⟩
 ·have d1:decide ((n:Int)>4194305)=false:=by simp;omega
  have e:cpd n=n:=if_neg h
  rw[e];clear e h
  go_enter Tryz.func66,Tryz.ntmps66
  go_wp2_with (fail)
  go_ret;exact⟨rfl,Below.refl _ _⟩
def frm (n:Nat):Nat:=cpd (n+(en n).length)
theorem r_framed (n:Nat) (hn:n<4611686018427387904):Gives 65 #[.int .i64 (n:Int)] (.int .i64 (frm n:Int)):=by
 intro w
 have cS:=r_size n (by omega)
 have hel:(en n).length≤10:=en_ten (by omega)
 have cC:=r_capped (n+(en n).length);unfold frm
 generalize hm:(en n).length=m at *
 rw[Int.natCast_add] at cC
 go_enter Tryz.func65,Tryz.ntmps65
 go_wp2_with (fail)
 refine(cS _).mono ?_;rintro e_ w1 ⟨rfl,hw⟩
 go_wp2_with (fail)
 refine(cC _).mono ?_;rintro e_ w2 ⟨rfl,hb⟩;replace hw:=Below.after hw hb
 go_wp2_with (fail)
 go_ret;exact⟨rfl,hw⟩
def fitB (k:Int) (r l0 m0 al c5 c6 c7 c8:Bool):Bool:=
 if k=1∨k=3 then r&&al else if k=2 then r&&al&&c5 else if k=4 then l0&&m0&&al else if k=5∨k=6 then r&&al&&c6
 else if k=7 then l0&&c7&&al else if k=8 then l0&&m0 else if k=9 then r&&c8 else false
def fitN (k l m:Int) (n:Nat):Bool:=fitB k (decide (l≤m)) (l==0) (m==0) ((n:Int)==0) (decide (m<4294967296)) (decide (m≤4194304)) (decide (m≤9007199254740992)) (decide (m≤4096))
theorem infoS:(Tryz.prog.info? 88).map (·.size)=some 5:=by kernel_rfl
theorem bSl (cs:Array Value) (W:World):(Instr.box 88 (.agg cs)).run Tryz.prog W=.ok (.pointer (some ⟨W.heap.size,0,none⟩)) (W.alloc (.cells cs 88)):=by kernel_rfl
theorem zSl (W:World):(Instr.alloc 88 true (.tuple #[])).run Tryz.prog W=.ok (.pointer (some ⟨W.heap.size,0,none⟩)) (W.alloc (.cells #[.int .i64 0,.int .i64 0,.int .u64 0,.int .u64 0,nS] 88)):=by kernel_rfl
theorem r_fitB (no k l m:Int) (hl0:0≤l) (hm0:0≤m) (n cap:Nat) (ao:Option Addr):Gives 98 #[.agg #[.int .i64 no,.int .i64 k,.int .u64 l,.int .u64 m,.slice ao n cap]] (.bool (fitN k l m n)):=by
 intro w;have R0:=hp1_0 w (.cells #[.int .i64 no,.int .i64 k,.int .u64 l,.int .u64 m,.slice ao n cap] 88);have hw:Below w.heap.size w (w.alloc (.cells #[.int .i64 no,.int .i64 k,.int .u64 l,.int .u64 m,.slice ao n cap] 88)):=(Below.refl _ _).alloc (Nat.le_refl _) _;have c0:(w.alloc (.cells #[.int .i64 no,.int .i64 k,.int .u64 l,.int .u64 m,.slice ao n cap] 88)).cell? ⟨w.heap.size,0,none⟩=some (.int .i64 no):=cell_of_row _ _ _ _ _ _ R0;have c1:(w.alloc (.cells #[.int .i64 no,.int .i64 k,.int .u64 l,.int .u64 m,.slice ao n cap] 88)).cell? ⟨w.heap.size,1,none⟩=some (.int .i64 k):=cell_of_row _ _ _ _ _ _ R0;have c2:(w.alloc (.cells #[.int .i64 no,.int .i64 k,.int .u64 l,.int .u64 m,.slice ao n cap] 88)).cell? ⟨w.heap.size,2,none⟩=some (.int .u64 l):=cell_of_row _ _ _ _ _ _ R0;have c3:(w.alloc (.cells #[.int .i64 no,.int .i64 k,.int .u64 l,.int .u64 m,.slice ao n cap] 88)).cell? ⟨w.heap.size,3,none⟩=some (.int .u64 m):=cell_of_row _ _ _ _ _ _ R0;have c4:(w.alloc (.cells #[.int .i64 no,.int .i64 k,.int .u64 l,.int .u64 m,.slice ao n cap] 88)).cell? ⟨w.heap.size,4,none⟩=some (.slice ao n cap):=cell_of_row _ _ _ _ _ _ R0;clear R0
 rcases kind_cases k with rfl|rfl|rfl|rfl|rfl|rfl|rfl|rfl|rfl|⟨h1,h2,h3,h4,h5,h6,h7,h8,h9⟩
 ·skip
  by_cases h_z:l=0
  ·have e_z:(l==0)=true:=by simp;omega
   by_cases h_r:l≤m
   ·have e_r:decide (l≤m)=true:=by simp;omega
    by_cases h_a:n=0
    ·have e_a:((n:Int)==0)=true:=by simp;omega
     have hf:Hid (fitN 1 l m n=true):=hide (by unfold fitN;rw[e_z,e_r,e_a];rfl)
     clear hl0 hm0 h_z h_r h_a
     go_enter Tryz.func98,Tryz.ntmps98
     go_wp2_with (first|(refine wpList_box rfl 88 _ rfl _ rfl (bSl _) ?_)|fail)
     go_ret
     exact⟨by rw[hf.out];rfl,hw⟩
    ·have e_a:((n:Int)==0)=false:=by simp;omega
     have hf:Hid (fitN 1 l m n=false):=hide (by unfold fitN;rw[e_z,e_r,e_a];rfl)
     clear hl0 hm0 h_z h_r h_a
     go_enter Tryz.func98,Tryz.ntmps98
     go_wp2_with (first|(refine wpList_box rfl 88 _ rfl _ rfl (bSl _) ?_)|fail)
     go_ret
     exact⟨by rw[hf.out];rfl,hw⟩
   ·have e_r:decide (l≤m)=false:=by simp;omega
    omega
  ·have e_z:(l==0)=false:=by simp;omega
   by_cases h_r:l≤m
   ·have e_r:decide (l≤m)=true:=by simp;omega
    by_cases h_a:n=0
    ·have e_a:((n:Int)==0)=true:=by simp;omega
     have hf:Hid (fitN 1 l m n=true):=hide (by unfold fitN;rw[e_z,e_r,e_a];rfl)
     clear hl0 hm0 h_z h_r h_a
     go_enter Tryz.func98,Tryz.ntmps98
     go_wp2_with (first|(refine wpList_box rfl 88 _ rfl _ rfl (bSl _) ?_)|fail)
     go_ret
     exact⟨by rw[hf.out];rfl,hw⟩
    ·have e_a:((n:Int)==0)=false:=by simp;omega
     have hf:Hid (fitN 1 l m n=false):=hide (by unfold fitN;rw[e_z,e_r,e_a];rfl)
     clear hl0 hm0 h_z h_r h_a
     go_enter Tryz.func98,Tryz.ntmps98
     go_wp2_with (first|(refine wpList_box rfl 88 _ rfl _ rfl (bSl _) ?_)|fail)
     go_ret
     exact⟨by rw[hf.out];rfl,hw⟩
   ·have e_r:decide (l≤m)=false:=by simp;omega
    by_cases h_a:n=0
    ·have e_a:((n:Int)==0)=true:=by simp;omega
     have hf:Hid (fitN 1 l m n=false):=hide (by unfold fitN;rw[e_z,e_r,e_a];rfl)
     clear hl0 hm0 h_z h_r h_a
     go_enter Tryz.func98,Tryz.ntmps98
     go_wp2_with (first|(refine wpList_box rfl 88 _ rfl _ rfl (bSl _) ?_)|fail)
     go_ret
     exact⟨by rw[hf.out];rfl,hw⟩
    ·have e_a:((n:Int)==0)=false:=by simp;omega
     have hf:Hid (fitN 1 l m n=false):=hide (by unfold fitN;rw[e_z,e_r,e_a];rfl)
     clear hl0 hm0 h_z h_r h_a
     go_enter Tryz.func98,Tryz.ntmps98
     go_wp2_with (first|(refine wpList_box rfl 88 _ rfl _ rfl (bSl _) ?_)|fail)
     go_ret
     exact⟨by rw[hf.out];rfl,hw⟩
 ·skip
  by_cases h_z:l=0
  ·have e_z:(l==0)=true:=by simp;omega
   by_cases h_r:l≤m
   ·have e_r:decide (l≤m)=true:=by simp;omega
    by_cases h_a:n=0
    ·have e_a:((n:Int)==0)=true:=by simp;omega
     by_cases h_5:m<4294967296
     ·have e_5:decide (m<4294967296)=true:=by simp;omega
      have hf:Hid (fitN 2 l m n=true):=hide (by unfold fitN;rw[e_z,e_r,e_a,e_5];rfl)
      clear hl0 hm0 h_z h_r h_a h_5
      go_enter Tryz.func98,Tryz.ntmps98
      go_wp2_with (first|(refine wpList_box rfl 88 _ rfl _ rfl (bSl _) ?_)|fail)
      go_ret
      exact⟨by rw[hf.out];rfl,hw⟩
     ·have e_5:decide (m<4294967296)=false:=by simp;omega
      have hf:Hid (fitN 2 l m n=false):=hide (by unfold fitN;rw[e_z,e_r,e_a,e_5];rfl)
      clear hl0 hm0 h_z h_r h_a h_5
      go_enter Tryz.func98,Tryz.ntmps98
      go_wp2_with (first|(refine wpList_box rfl 88 _ rfl _ rfl (bSl _) ?_)|fail)
      go_ret
      exact⟨by rw[hf.out];rfl,hw⟩
    ·have e_a:((n:Int)==0)=false:=by simp;omega
     by_cases h_5:m<4294967296
     ·have e_5:decide (m<4294967296)=true:=by simp;omega
      have hf:Hid (fitN 2 l m n=false):=hide (by unfold fitN;rw[e_z,e_r,e_a,e_5];rfl)
      clear hl0 hm0 h_z h_r h_a h_5
      go_enter Tryz.func98,Tryz.ntmps98
      go_wp2_with (first|(refine wpList_box rfl 88 _ rfl _ rfl (bSl _) ?_)|fail)
      go_ret
      exact⟨by rw[hf.out];rfl,hw⟩
     ·have e_5:decide (m<4294967296)=false:=by simp;omega
      have hf:Hid (fitN 2 l m n=false):=hide (by unfold fitN;rw[e_z,e_r,e_a,e_5];rfl)
      clear hl0 hm0 h_z h_r h_a h_5
      go_enter Tryz.func98,Tryz.ntmps98
      go_wp2_with (first|(refine wpList_box rfl 88 _ rfl _ rfl (bSl _) ?_)|fail)
      go_ret
      exact⟨by rw[hf.out];rfl,hw⟩
   ·have e_r:decide (l≤m)=false:=by simp;omega
    omega
  ·have e_z:(l==0)=false:=by simp;omega
   by_cases h_r:l≤m
   ·have e_r:decide (l≤m)=true:=by simp;omega
    by_cases h_a:n=0
    ·have e_a:((n:Int)==0)=true:=by simp;omega
     by_cases h_5:m<4294967296
     ·have e_5:decide (m<4294967296)=true:=by simp;omega
      have hf:Hid (fitN 2 l m n=true):=hide (by unfold fitN;rw[e_z,e_r,e_a,e_5];rfl)
      clear hl0 hm0 h_z h_r h_a h_5
      go_enter Tryz.func98,Tryz.ntmps98
      go_wp2_with (first|(refine wpList_box rfl 88 _ rfl _ rfl (bSl _) ?_)|fail)
      go_ret
      exact⟨by rw[hf.out];rfl,hw⟩
     ·have e_5:decide (m<4294967296)=false:=by simp;omega
      have hf:Hid (fitN 2 l m n=false):=hide (by unfold fitN;rw[e_z,e_r,e_a,e_5];rfl)
      clear hl0 hm0 h_z h_r h_a h_5
      go_enter Tryz.func98,Tryz.ntmps98
      go_wp2_with (first|(refine wpList_box rfl 88 _ rfl _ rfl (bSl _) ?_)|fail)
      go_ret
      exact⟨by rw[hf.out];rfl,hw⟩
    ·have e_a:((n:Int)==0)=false:=by simp;omega
     by_cases h_5:m<4294967296
     ·have e_5:decide (m<4294967296)=true:=by simp;omega
      have hf:Hid (fitN 2 l m n=false):=hide (by unfold fitN;rw[e_z,e_r,e_a,e_5];rfl)
      clear hl0 hm0 h_z h_r h_a h_5
      go_enter Tryz.func98,Tryz.ntmps98
      go_wp2_with (first|(refine wpList_box rfl 88 _ rfl _ rfl (bSl _) ?_)|fail)
      go_ret
      exact⟨by rw[hf.out];rfl,hw⟩
     ·have e_5:decide (m<4294967296)=false:=by simp;omega
      have hf:Hid (fitN 2 l m n=false):=hide (by unfold fitN;rw[e_z,e_r,e_a,e_5];rfl)
      clear hl0 hm0 h_z h_r h_a h_5
      go_enter Tryz.func98,Tryz.ntmps98
      go_wp2_with (first|(refine wpList_box rfl 88 _ rfl _ rfl (bSl _) ?_)|fail)
      go_ret
      exact⟨by rw[hf.out];rfl,hw⟩
   ·have e_r:decide (l≤m)=false:=by simp;omega
    by_cases h_a:n=0
    ·have e_a:((n:Int)==0)=true:=by simp;omega
     by_cases h_5:m<4294967296
     ·have e_5:decide (m<4294967296)=true:=by simp;omega
      have hf:Hid (fitN 2 l m n=false):=hide (by unfold fitN;rw[e_z,e_r,e_a,e_5];rfl)
      clear hl0 hm0 h_z h_r h_a h_5
      go_enter Tryz.func98,Tryz.ntmps98
      go_wp2_with (first|(refine wpList_box rfl 88 _ rfl _ rfl (bSl _) ?_)|fail)
      go_ret
      exact⟨by rw[hf.out];rfl,hw⟩
     ·have e_5:decide (m<4294967296)=false:=by simp;omega
      have hf:Hid (fitN 2 l m n=false):=hide (by unfold fitN;rw[e_z,e_r,e_a,e_5];rfl)
      clear hl0 hm0 h_z h_r h_a h_5
      go_enter Tryz.func98,Tryz.ntmps98
      go_wp2_with (first|(refine wpList_box rfl 88 _ rfl _ rfl (bSl _) ?_)|fail)
      go_ret
      exact⟨by rw[hf.out];rfl,hw⟩
    ·have e_a:((n:Int)==0)=false:=by simp;omega
     by_cases h_5:m<4294967296
     ·have e_5:decide (m<4294967296)=true:=by simp;omega
      have hf:Hid (fitN 2 l m n=false):=hide (by unfold fitN;rw[e_z,e_r,e_a,e_5];rfl)
      clear hl0 hm0 h_z h_r h_a h_5
      go_enter Tryz.func98,Tryz.ntmps98
      go_wp2_with (first|(refine wpList_box rfl 88 _ rfl _ rfl (bSl _) ?_)|fail)
      go_ret
      exact⟨by rw[hf.out];rfl,hw⟩
     ·have e_5:decide (m<4294967296)=false:=by simp;omega
      have hf:Hid (fitN 2 l m n=false):=hide (by unfold fitN;rw[e_z,e_r,e_a,e_5];rfl)
      clear hl0 hm0 h_z h_r h_a h_5
      go_enter Tryz.func98,Tryz.ntmps98
      go_wp2_with (first|(refine wpList_box rfl 88 _ rfl _ rfl (bSl _) ?_)|fail)
      go_ret
      exact⟨by rw[hf.out];rfl,hw⟩
 ·skip
  by_cases h_z:l=0
  ·have e_z:(l==0)=true:=by simp;omega
   by_cases h_r:l≤m
   ·have e_r:decide (l≤m)=true:=by simp;omega
    by_cases h_a:n=0
    ·have e_a:((n:Int)==0)=true:=by simp;omega
     have hf:Hid (fitN 3 l m n=true):=hide (by unfold fitN;rw[e_z,e_r,e_a];rfl)
     clear hl0 hm0 h_z h_r h_a
     go_enter Tryz.func98,Tryz.ntmps98
     go_wp2_with (first|(refine wpList_box rfl 88 _ rfl _ rfl (bSl _) ?_)|fail)
     go_ret
     exact⟨by rw[hf.out];rfl,hw⟩
    ·have e_a:((n:Int)==0)=false:=by simp;omega
     have hf:Hid (fitN 3 l m n=false):=hide (by unfold fitN;rw[e_z,e_r,e_a];rfl)
     clear hl0 hm0 h_z h_r h_a
     go_enter Tryz.func98,Tryz.ntmps98
     go_wp2_with (first|(refine wpList_box rfl 88 _ rfl _ rfl (bSl _) ?_)|fail)
     go_ret
     exact⟨by rw[hf.out];rfl,hw⟩
   ·have e_r:decide (l≤m)=false:=by simp;omega
    omega
  ·have e_z:(l==0)=false:=by simp;omega
   by_cases h_r:l≤m
   ·have e_r:decide (l≤m)=true:=by simp;omega
    by_cases h_a:n=0
    ·have e_a:((n:Int)==0)=true:=by simp;omega
     have hf:Hid (fitN 3 l m n=true):=hide (by unfold fitN;rw[e_z,e_r,e_a];rfl)
     clear hl0 hm0 h_z h_r h_a
     go_enter Tryz.func98,Tryz.ntmps98
     go_wp2_with (first|(refine wpList_box rfl 88 _ rfl _ rfl (bSl _) ?_)|fail)
     go_ret
     exact⟨by rw[hf.out];rfl,hw⟩
    ·have e_a:((n:Int)==0)=false:=by simp;omega
     have hf:Hid (fitN 3 l m n=false):=hide (by unfold fitN;rw[e_z,e_r,e_a];rfl)
     clear hl0 hm0 h_z h_r h_a
     go_enter Tryz.func98,Tryz.ntmps98
     go_wp2_with (first|(refine wpList_box rfl 88 _ rfl _ rfl (bSl _) ?_)|fail)
     go_ret
     exact⟨by rw[hf.out];rfl,hw⟩
   ·have e_r:decide (l≤m)=false:=by simp;omega
    by_cases h_a:n=0
    ·have e_a:((n:Int)==0)=true:=by simp;omega
     have hf:Hid (fitN 3 l m n=false):=hide (by unfold fitN;rw[e_z,e_r,e_a];rfl)
     clear hl0 hm0 h_z h_r h_a
     go_enter Tryz.func98,Tryz.ntmps98
     go_wp2_with (first|(refine wpList_box rfl 88 _ rfl _ rfl (bSl _) ?_)|fail)
     go_ret
     exact⟨by rw[hf.out];rfl,hw⟩
    ·have e_a:((n:Int)==0)=false:=by simp;omega
     have hf:Hid (fitN 3 l m n=false):=hide (by unfold fitN;rw[e_z,e_r,e_a];rfl)
     clear hl0 hm0 h_z h_r h_a
     go_enter Tryz.func98,Tryz.ntmps98
     go_wp2_with (first|(refine wpList_box rfl 88 _ rfl _ rfl (bSl _) ?_)|fail)
     go_ret
     exact⟨by rw[hf.out];rfl,hw⟩
 ·skip
  by_cases h_z:l=0
  ·have e_z:(l==0)=true:=by simp;omega
   by_cases h_m:m=0
   ·have e_m:(m==0)=true:=by simp;omega
    by_cases h_a:n=0
    ·have e_a:((n:Int)==0)=true:=by simp;omega
     have hf:Hid (fitN 4 l m n=true):=hide (by unfold fitN;rw[e_z,e_m,e_a];rfl)
     clear hl0 hm0 h_z h_m h_a
     go_enter Tryz.func98,Tryz.ntmps98
     go_wp2_with (first|(refine wpList_box rfl 88 _ rfl _ rfl (bSl _) ?_)|fail)
     go_ret
     exact⟨by rw[hf.out];rfl,hw⟩
    ·have e_a:((n:Int)==0)=false:=by simp;omega
     have hf:Hid (fitN 4 l m n=false):=hide (by unfold fitN;rw[e_z,e_m,e_a];rfl)
     clear hl0 hm0 h_z h_m h_a
     go_enter Tryz.func98,Tryz.ntmps98
     go_wp2_with (first|(refine wpList_box rfl 88 _ rfl _ rfl (bSl _) ?_)|fail)
     go_ret
     exact⟨by rw[hf.out];rfl,hw⟩
   ·have e_m:(m==0)=false:=by simp;omega
    by_cases h_a:n=0
    ·have e_a:((n:Int)==0)=true:=by simp;omega
     have hf:Hid (fitN 4 l m n=false):=hide (by unfold fitN;rw[e_z,e_m,e_a];rfl)
     clear hl0 hm0 h_z h_m h_a
     go_enter Tryz.func98,Tryz.ntmps98
     go_wp2_with (first|(refine wpList_box rfl 88 _ rfl _ rfl (bSl _) ?_)|fail)
     go_ret
     exact⟨by rw[hf.out];rfl,hw⟩
    ·have e_a:((n:Int)==0)=false:=by simp;omega
     have hf:Hid (fitN 4 l m n=false):=hide (by unfold fitN;rw[e_z,e_m,e_a];rfl)
     clear hl0 hm0 h_z h_m h_a
     go_enter Tryz.func98,Tryz.ntmps98
     go_wp2_with (first|(refine wpList_box rfl 88 _ rfl _ rfl (bSl _) ?_)|fail)
     go_ret
     exact⟨by rw[hf.out];rfl,hw⟩
  ·have e_z:(l==0)=false:=by simp;omega
   by_cases h_m:m=0
   ·have e_m:(m==0)=true:=by simp;omega
    by_cases h_a:n=0
    ·have e_a:((n:Int)==0)=true:=by simp;omega
     have hf:Hid (fitN 4 l m n=false):=hide (by unfold fitN;rw[e_z,e_m,e_a];rfl)
     clear hl0 hm0 h_z h_m h_a
     go_enter Tryz.func98,Tryz.ntmps98
     go_wp2_with (first|(refine wpList_box rfl 88 _ rfl _ rfl (bSl _) ?_)|fail)
     go_ret
     exact⟨by rw[hf.out];rfl,hw⟩
    ·have e_a:((n:Int)==0)=false:=by simp;omega
     have hf:Hid (fitN 4 l m n=false):=hide (by unfold fitN;rw[e_z,e_m,e_a];rfl)
     clear hl0 hm0 h_z h_m h_a
     go_enter Tryz.func98,Tryz.ntmps98
     go_wp2_with (first|(refine wpList_box rfl 88 _ rfl _ rfl (bSl _) ?_)|fail)
     go_ret
     exact⟨by rw[hf.out];rfl,hw⟩
   ·have e_m:(m==0)=false:=by simp;omega
    by_cases h_a:n=0
    ·have e_a:((n:Int)==0)=true:=by simp;omega
     have hf:Hid (fitN 4 l m n=false):=hide (by unfold fitN;rw[e_z,e_m,e_a];rfl)
     clear hl0 hm0 h_z h_m h_a
     go_enter Tryz.func98,Tryz.ntmps98
     go_wp2_with (first|(refine wpList_box rfl 88 _ rfl _ rfl (bSl _) ?_)|fail)
     go_ret
     exact⟨by rw[hf.out];rfl,hw⟩
    ·have e_a:((n:Int)==0)=false:=by simp;omega
     have hf:Hid (fitN 4 l m n=false):=hide (by unfold fitN;rw[e_z,e_m,e_a];rfl)
     clear hl0 hm0 h_z h_m h_a
     go_enter Tryz.func98,Tryz.ntmps98
     go_wp2_with (first|(refine wpList_box rfl 88 _ rfl _ rfl (bSl _) ?_)|fail)
     go_ret
     exact⟨by rw[hf.out];rfl,hw⟩
 ·skip
  by_cases h_z:l=0
  ·have e_z:(l==0)=true:=by simp;omega
   by_cases h_r:l≤m
   ·have e_r:decide (l≤m)=true:=by simp;omega
    by_cases h_a:n=0
    ·have e_a:((n:Int)==0)=true:=by simp;omega
     by_cases h_6:m≤4194304
     ·have e_6:decide (m≤4194304)=true:=by simp;omega
      have hf:Hid (fitN 5 l m n=true):=hide (by unfold fitN;rw[e_z,e_r,e_a,e_6];rfl)
      clear hl0 hm0 h_z h_r h_a h_6
      go_enter Tryz.func98,Tryz.ntmps98
      go_wp2_with (first|(refine wpList_box rfl 88 _ rfl _ rfl (bSl _) ?_)|fail)
      go_ret
      exact⟨by rw[hf.out];rfl,hw⟩
     ·have e_6:decide (m≤4194304)=false:=by simp;omega
      have hf:Hid (fitN 5 l m n=false):=hide (by unfold fitN;rw[e_z,e_r,e_a,e_6];rfl)
      clear hl0 hm0 h_z h_r h_a h_6
      go_enter Tryz.func98,Tryz.ntmps98
      go_wp2_with (first|(refine wpList_box rfl 88 _ rfl _ rfl (bSl _) ?_)|fail)
      go_ret
      exact⟨by rw[hf.out];rfl,hw⟩
    ·have e_a:((n:Int)==0)=false:=by simp;omega
     by_cases h_6:m≤4194304
     ·have e_6:decide (m≤4194304)=true:=by simp;omega
      have hf:Hid (fitN 5 l m n=false):=hide (by unfold fitN;rw[e_z,e_r,e_a,e_6];rfl)
      clear hl0 hm0 h_z h_r h_a h_6
      go_enter Tryz.func98,Tryz.ntmps98
      go_wp2_with (first|(refine wpList_box rfl 88 _ rfl _ rfl (bSl _) ?_)|fail)
      go_ret
      exact⟨by rw[hf.out];rfl,hw⟩
     ·have e_6:decide (m≤4194304)=false:=by simp;omega
      have hf:Hid (fitN 5 l m n=false):=hide (by unfold fitN;rw[e_z,e_r,e_a,e_6];rfl)
      clear hl0 hm0 h_z h_r h_a h_6
      go_enter Tryz.func98,Tryz.ntmps98
      go_wp2_with (first|(refine wpList_box rfl 88 _ rfl _ rfl (bSl _) ?_)|fail)
      go_ret
      exact⟨by rw[hf.out];rfl,hw⟩
   ·have e_r:decide (l≤m)=false:=by simp;omega
    omega
  ·have e_z:(l==0)=false:=by simp;omega
   by_cases h_r:l≤m
   ·have e_r:decide (l≤m)=true:=by simp;omega
    by_cases h_a:n=0
    ·have e_a:((n:Int)==0)=true:=by simp;omega
     by_cases h_6:m≤4194304
     ·have e_6:decide (m≤4194304)=true:=by simp;omega
      have hf:Hid (fitN 5 l m n=true):=hide (by unfold fitN;rw[e_z,e_r,e_a,e_6];rfl)
      clear hl0 hm0 h_z h_r h_a h_6
      go_enter Tryz.func98,Tryz.ntmps98
      go_wp2_with (first|(refine wpList_box rfl 88 _ rfl _ rfl (bSl _) ?_)|fail)
      go_ret
      exact⟨by rw[hf.out];rfl,hw⟩
     ·have e_6:decide (m≤4194304)=false:=by simp;omega
      have hf:Hid (fitN 5 l m n=false):=hide (by unfold fitN;rw[e_z,e_r,e_a,e_6];rfl)
      clear hl0 hm0 h_z h_r h_a h_6
      go_enter Tryz.func98,Tryz.ntmps98
      go_wp2_with (first|(refine wpList_box rfl 88 _ rfl _ rfl (bSl _) ?_)|fail)
      go_ret
      exact⟨by rw[hf.out];rfl,hw⟩
    ·have e_a:((n:Int)==0)=false:=by simp;omega
     by_cases h_6:m≤4194304
     ·have e_6:decide (m≤4194304)=true:=by simp;omega
      have hf:Hid (fitN 5 l m n=false):=hide (by unfold fitN;rw[e_z,e_r,e_a,e_6];rfl)
      clear hl0 hm0 h_z h_r h_a h_6
      go_enter Tryz.func98,Tryz.ntmps98
      go_wp2_with (first|(refine wpList_box rfl 88 _ rfl _ rfl (bSl _) ?_)|fail)
      go_ret
      exact⟨by rw[hf.out];rfl,hw⟩
     ·have e_6:decide (m≤4194304)=false:=by simp;omega
      have hf:Hid (fitN 5 l m n=false):=hide (by unfold fitN;rw[e_z,e_r,e_a,e_6];rfl)
      clear hl0 hm0 h_z h_r h_a h_6
      go_enter Tryz.func98,Tryz.ntmps98
      go_wp2_with (first|(refine wpList_box rfl 88 _ rfl _ rfl (bSl _) ?_)|fail)
      go_ret
      exact⟨by rw[hf.out];rfl,hw⟩
   ·have e_r:decide (l≤m)=false:=by simp;omega
    by_cases h_a:n=0
    ·have e_a:((n:Int)==0)=true:=by simp;omega
     by_cases h_6:m≤4194304
     ·have e_6:decide (m≤4194304)=true:=by simp;omega
      have hf:Hid (fitN 5 l m n=false):=hide (by unfold fitN;rw[e_z,e_r,e_a,e_6];rfl)
      clear hl0 hm0 h_z h_r h_a h_6
      go_enter Tryz.func98,Tryz.ntmps98
      go_wp2_with (first|(refine wpList_box rfl 88 _ rfl _ rfl (bSl _) ?_)|fail)
      go_ret
      exact⟨by rw[hf.out];rfl,hw⟩
     ·have e_6:decide (m≤4194304)=false:=by simp;omega
      have hf:Hid (fitN 5 l m n=false):=hide (by unfold fitN;rw[e_z,e_r,e_a,e_6];rfl)
      clear hl0 hm0 h_z h_r h_a h_6
      go_enter Tryz.func98,Tryz.ntmps98
      go_wp2_with (first|(refine wpList_box rfl 88 _ rfl _ rfl (bSl _) ?_)|fail)
      go_ret
      exact⟨by rw[hf.out];rfl,hw⟩
    ·have e_a:((n:Int)==0)=false:=by simp;omega
     by_cases h_6:m≤4194304
     ·have e_6:decide (m≤4194304)=true:=by simp;omega
      have hf:Hid (fitN 5 l m n=false):=hide (by unfold fitN;rw[e_z,e_r,e_a,e_6];rfl)
      clear hl0 hm0 h_z h_r h_a h_6
      go_enter Tryz.func98,Tryz.ntmps98
      go_wp2_with (first|(refine wpList_box rfl 88 _ rfl _ rfl (bSl _) ?_)|fail)
      go_ret
      exact⟨by rw[hf.out];rfl,hw⟩
     ·have e_6:decide (m≤4194304)=false:=by simp;omega
      have hf:Hid (fitN 5 l m n=false):=hide (by unfold fitN;rw[e_z,e_r,e_a,e_6];rfl)
      clear hl0 hm0 h_z h_r h_a h_6
      go_enter Tryz.func98,Tryz.ntmps98
      go_wp2_with (first|(refine wpList_box rfl 88 _ rfl _ rfl (bSl _) ?_)|fail)
      go_ret
      exact⟨by rw[hf.out];rfl,hw⟩
 ·skip
  by_cases h_z:l=0
  ·have e_z:(l==0)=true:=by simp;omega
   by_cases h_r:l≤m
   ·have e_r:decide (l≤m)=true:=by simp;omega
    by_cases h_a:n=0
    ·have e_a:((n:Int)==0)=true:=by simp;omega
     by_cases h_6:m≤4194304
     ·have e_6:decide (m≤4194304)=true:=by simp;omega
      have hf:Hid (fitN 6 l m n=true):=hide (by unfold fitN;rw[e_z,e_r,e_a,e_6];rfl)
      clear hl0 hm0 h_z h_r h_a h_6
      go_enter Tryz.func98,Tryz.ntmps98
      go_wp2_with (first|(refine wpList_box rfl 88 _ rfl _ rfl (bSl _) ?_)|fail)
      go_ret
      exact⟨by rw[hf.out];rfl,hw⟩
     ·have e_6:decide (m≤4194304)=false:=by simp;omega
      have hf:Hid (fitN 6 l m n=false):=hide (by unfold fitN;rw[e_z,e_r,e_a,e_6];rfl)
      clear hl0 hm0 h_z h_r h_a h_6
      go_enter Tryz.func98,Tryz.ntmps98
      go_wp2_with (first|(refine wpList_box rfl 88 _ rfl _ rfl (bSl _) ?_)|fail)
      go_ret
      exact⟨by rw[hf.out];rfl,hw⟩
    ·have e_a:((n:Int)==0)=false:=by simp;omega
     by_cases h_6:m≤4194304
     ·have e_6:decide (m≤4194304)=true:=by simp;omega
      have hf:Hid (fitN 6 l m n=false):=hide (by unfold fitN;rw[e_z,e_r,e_a,e_6];rfl)
      clear hl0 hm0 h_z h_r h_a h_6
      go_enter Tryz.func98,Tryz.ntmps98
      go_wp2_with (first|(refine wpList_box rfl 88 _ rfl _ rfl (bSl _) ?_)|fail)
      go_ret
      exact⟨by rw[hf.out];rfl,hw⟩
     ·have e_6:decide (m≤4194304)=false:=by simp;omega
      have hf:Hid (fitN 6 l m n=false):=hide (by unfold fitN;rw[e_z,e_r,e_a,e_6];rfl)
      clear hl0 hm0 h_z h_r h_a h_6
      go_enter Tryz.func98,Tryz.ntmps98
      go_wp2_with (first|(refine wpList_box rfl 88 _ rfl _ rfl (bSl _) ?_)|fail)
      go_ret
      exact⟨by rw[hf.out];rfl,hw⟩
   ·have e_r:decide (l≤m)=false:=by simp;omega
    omega
  ·have e_z:(l==0)=false:=by simp;omega
   by_cases h_r:l≤m
   ·have e_r:decide (l≤m)=true:=by simp;omega
    by_cases h_a:n=0
    ·have e_a:((n:Int)==0)=true:=by simp;omega
     by_cases h_6:m≤4194304
     ·have e_6:decide (m≤4194304)=true:=by simp;omega
      have hf:Hid (fitN 6 l m n=true):=hide (by unfold fitN;rw[e_z,e_r,e_a,e_6];rfl)
      clear hl0 hm0 h_z h_r h_a h_6
      go_enter Tryz.func98,Tryz.ntmps98
      go_wp2_with (first|(refine wpList_box rfl 88 _ rfl _ rfl (bSl _) ?_)|fail)
      go_ret
      exact⟨by rw[hf.out];rfl,hw⟩
     ·have e_6:decide (m≤4194304)=false:=by simp;omega
      have hf:Hid (fitN 6 l m n=false):=hide (by unfold fitN;rw[e_z,e_r,e_a,e_6];rfl)
      clear hl0 hm0 h_z h_r h_a h_6
      go_enter Tryz.func98,Tryz.ntmps98
      go_wp2_with (first|(refine wpList_box rfl 88 _ rfl _ rfl (bSl _) ?_)|fail)
      go_ret
      exact⟨by rw[hf.out];rfl,hw⟩
    ·have e_a:((n:Int)==0)=false:=by simp;omega
     by_cases h_6:m≤4194304
     ·have e_6:decide (m≤4194304)=true:=by simp;omega
      have hf:Hid (fitN 6 l m n=false):=hide (by unfold fitN;rw[e_z,e_r,e_a,e_6];rfl)
      clear hl0 hm0 h_z h_r h_a h_6
      go_enter Tryz.func98,Tryz.ntmps98
      go_wp2_with (first|(refine wpList_box rfl 88 _ rfl _ rfl (bSl _) ?_)|fail)
      go_ret
      exact⟨by rw[hf.out];rfl,hw⟩
     ·have e_6:decide (m≤4194304)=false:=by simp;omega
      have hf:Hid (fitN 6 l m n=false):=hide (by unfold fitN;rw[e_z,e_r,e_a,e_6];rfl)
      clear hl0 hm0 h_z h_r h_a h_6
      go_enter Tryz.func98,Tryz.ntmps98
      go_wp2_with (first|(refine wpList_box rfl 88 _ rfl _ rfl (bSl _) ?_)|fail)
      go_ret
      exact⟨by rw[hf.out];rfl,hw⟩
   ·have e_r:decide (l≤m)=false:=by simp;omega
    by_cases h_a:n=0
    ·have e_a:((n:Int)==0)=true:=by simp;omega
     by_cases h_6:m≤4194304
     ·have e_6:decide (m≤4194304)=true:=by simp;omega
      have hf:Hid (fitN 6 l m n=false):=hide (by unfold fitN;rw[e_z,e_r,e_a,e_6];rfl)
      clear hl0 hm0 h_z h_r h_a h_6
      go_enter Tryz.func98,Tryz.ntmps98
      go_wp2_with (first|(refine wpList_box rfl 88 _ rfl _ rfl (bSl _) ?_)|fail)
      go_ret
      exact⟨by rw[hf.out];rfl,hw⟩
     ·have e_6:decide (m≤4194304)=false:=by simp;omega
      have hf:Hid (fitN 6 l m n=false):=hide (by unfold fitN;rw[e_z,e_r,e_a,e_6];rfl)
      clear hl0 hm0 h_z h_r h_a h_6
      go_enter Tryz.func98,Tryz.ntmps98
      go_wp2_with (first|(refine wpList_box rfl 88 _ rfl _ rfl (bSl _) ?_)|fail)
      go_ret
      exact⟨by rw[hf.out];rfl,hw⟩
    ·have e_a:((n:Int)==0)=false:=by simp;omega
     by_cases h_6:m≤4194304
     ·have e_6:decide (m≤4194304)=true:=by simp;omega
      have hf:Hid (fitN 6 l m n=false):=hide (by unfold fitN;rw[e_z,e_r,e_a,e_6];rfl)
      clear hl0 hm0 h_z h_r h_a h_6
      go_enter Tryz.func98,Tryz.ntmps98
      go_wp2_with (first|(refine wpList_box rfl 88 _ rfl _ rfl (bSl _) ?_)|fail)
      go_ret
      exact⟨by rw[hf.out];rfl,hw⟩
     ·have e_6:decide (m≤4194304)=false:=by simp;omega
      have hf:Hid (fitN 6 l m n=false):=hide (by unfold fitN;rw[e_z,e_r,e_a,e_6];rfl)
      clear hl0 hm0 h_z h_r h_a h_6
      go_enter Tryz.func98,Tryz.ntmps98
      go_wp2_with (first|(refine wpList_box rfl 88 _ rfl _ rfl (bSl _) ?_)|fail)
      go_ret
      exact⟨by rw[hf.out];rfl,hw⟩
 ·skip
  by_cases h_z:l=0
  ·have e_z:(l==0)=true:=by simp;omega
   by_cases h_7:m≤9007199254740992
   ·have e_7:decide (m≤9007199254740992)=true:=by simp;omega
    by_cases h_a:n=0
    ·have e_a:((n:Int)==0)=true:=by simp;omega
     have hf:Hid (fitN 7 l m n=true):=hide (by unfold fitN;rw[e_z,e_7,e_a];rfl)
     clear hl0 hm0 h_z h_7 h_a
     go_enter Tryz.func98,Tryz.ntmps98
     go_wp2_with (first|(refine wpList_box rfl 88 _ rfl _ rfl (bSl _) ?_)|fail)
     go_ret
     exact⟨by rw[hf.out];rfl,hw⟩
    ·have e_a:((n:Int)==0)=false:=by simp;omega
     have hf:Hid (fitN 7 l m n=false):=hide (by unfold fitN;rw[e_z,e_7,e_a];rfl)
     clear hl0 hm0 h_z h_7 h_a
     go_enter Tryz.func98,Tryz.ntmps98
     go_wp2_with (first|(refine wpList_box rfl 88 _ rfl _ rfl (bSl _) ?_)|fail)
     go_ret
     exact⟨by rw[hf.out];rfl,hw⟩
   ·have e_7:decide (m≤9007199254740992)=false:=by simp;omega
    by_cases h_a:n=0
    ·have e_a:((n:Int)==0)=true:=by simp;omega
     have hf:Hid (fitN 7 l m n=false):=hide (by unfold fitN;rw[e_z,e_7,e_a];rfl)
     clear hl0 hm0 h_z h_7 h_a
     go_enter Tryz.func98,Tryz.ntmps98
     go_wp2_with (first|(refine wpList_box rfl 88 _ rfl _ rfl (bSl _) ?_)|fail)
     go_ret
     exact⟨by rw[hf.out];rfl,hw⟩
    ·have e_a:((n:Int)==0)=false:=by simp;omega
     have hf:Hid (fitN 7 l m n=false):=hide (by unfold fitN;rw[e_z,e_7,e_a];rfl)
     clear hl0 hm0 h_z h_7 h_a
     go_enter Tryz.func98,Tryz.ntmps98
     go_wp2_with (first|(refine wpList_box rfl 88 _ rfl _ rfl (bSl _) ?_)|fail)
     go_ret
     exact⟨by rw[hf.out];rfl,hw⟩
  ·have e_z:(l==0)=false:=by simp;omega
   by_cases h_7:m≤9007199254740992
   ·have e_7:decide (m≤9007199254740992)=true:=by simp;omega
    by_cases h_a:n=0
    ·have e_a:((n:Int)==0)=true:=by simp;omega
     have hf:Hid (fitN 7 l m n=false):=hide (by unfold fitN;rw[e_z,e_7,e_a];rfl)
     clear hl0 hm0 h_z h_7 h_a
     go_enter Tryz.func98,Tryz.ntmps98
     go_wp2_with (first|(refine wpList_box rfl 88 _ rfl _ rfl (bSl _) ?_)|fail)
     go_ret
     exact⟨by rw[hf.out];rfl,hw⟩
    ·have e_a:((n:Int)==0)=false:=by simp;omega
     have hf:Hid (fitN 7 l m n=false):=hide (by unfold fitN;rw[e_z,e_7,e_a];rfl)
     clear hl0 hm0 h_z h_7 h_a
     go_enter Tryz.func98,Tryz.ntmps98
     go_wp2_with (first|(refine wpList_box rfl 88 _ rfl _ rfl (bSl _) ?_)|fail)
     go_ret
     exact⟨by rw[hf.out];rfl,hw⟩
   ·have e_7:decide (m≤9007199254740992)=false:=by simp;omega
    by_cases h_a:n=0
    ·have e_a:((n:Int)==0)=true:=by simp;omega
     have hf:Hid (fitN 7 l m n=false):=hide (by unfold fitN;rw[e_z,e_7,e_a];rfl)
     clear hl0 hm0 h_z h_7 h_a
     go_enter Tryz.func98,Tryz.ntmps98
     go_wp2_with (first|(refine wpList_box rfl 88 _ rfl _ rfl (bSl _) ?_)|fail)
     go_ret
     exact⟨by rw[hf.out];rfl,hw⟩
    ·have e_a:((n:Int)==0)=false:=by simp;omega
     have hf:Hid (fitN 7 l m n=false):=hide (by unfold fitN;rw[e_z,e_7,e_a];rfl)
     clear hl0 hm0 h_z h_7 h_a
     go_enter Tryz.func98,Tryz.ntmps98
     go_wp2_with (first|(refine wpList_box rfl 88 _ rfl _ rfl (bSl _) ?_)|fail)
     go_ret
     exact⟨by rw[hf.out];rfl,hw⟩
 ·skip
  by_cases h_z:l=0
  ·have e_z:(l==0)=true:=by simp;omega
   by_cases h_m:m=0
   ·have e_m:(m==0)=true:=by simp;omega
    have hf:Hid (fitN 8 l m n=true):=hide (by unfold fitN;rw[e_z,e_m];rfl)
    clear hl0 hm0 h_z h_m
    go_enter Tryz.func98,Tryz.ntmps98
    go_wp2_with (first|(refine wpList_box rfl 88 _ rfl _ rfl (bSl _) ?_)|fail)
    go_ret
    exact⟨by rw[hf.out];rfl,hw⟩
   ·have e_m:(m==0)=false:=by simp;omega
    have hf:Hid (fitN 8 l m n=false):=hide (by unfold fitN;rw[e_z,e_m];rfl)
    clear hl0 hm0 h_z h_m
    go_enter Tryz.func98,Tryz.ntmps98
    go_wp2_with (first|(refine wpList_box rfl 88 _ rfl _ rfl (bSl _) ?_)|fail)
    go_ret
    exact⟨by rw[hf.out];rfl,hw⟩
  ·have e_z:(l==0)=false:=by simp;omega
   by_cases h_m:m=0
   ·have e_m:(m==0)=true:=by simp;omega
    have hf:Hid (fitN 8 l m n=false):=hide (by unfold fitN;rw[e_z,e_m];rfl)
    clear hl0 hm0 h_z h_m
    go_enter Tryz.func98,Tryz.ntmps98
    go_wp2_with (first|(refine wpList_box rfl 88 _ rfl _ rfl (bSl _) ?_)|fail)
    go_ret
    exact⟨by rw[hf.out];rfl,hw⟩
   ·have e_m:(m==0)=false:=by simp;omega
    have hf:Hid (fitN 8 l m n=false):=hide (by unfold fitN;rw[e_z,e_m];rfl)
    clear hl0 hm0 h_z h_m
    go_enter Tryz.func98,Tryz.ntmps98
    go_wp2_with (first|(refine wpList_box rfl 88 _ rfl _ rfl (bSl _) ?_)|fail)
    go_ret
    exact⟨by rw[hf.out];rfl,hw⟩
 ·skip
  by_cases h_z:l=0
  ·have e_z:(l==0)=true:=by simp;omega
   by_cases h_r:l≤m
   ·have e_r:decide (l≤m)=true:=by simp;omega
    by_cases h_8:m≤4096
    ·have e_8:decide (m≤4096)=true:=by simp;omega
     have hf:Hid (fitN 9 l m n=true):=hide (by unfold fitN;rw[e_z,e_r,e_8];rfl)
     clear hl0 hm0 h_z h_r h_8
     go_enter Tryz.func98,Tryz.ntmps98
     go_wp2_with (first|(refine wpList_box rfl 88 _ rfl _ rfl (bSl _) ?_)|fail)
     go_ret
     exact⟨by rw[hf.out];rfl,hw⟩
    ·have e_8:decide (m≤4096)=false:=by simp;omega
     have hf:Hid (fitN 9 l m n=false):=hide (by unfold fitN;rw[e_z,e_r,e_8];rfl)
     clear hl0 hm0 h_z h_r h_8
     go_enter Tryz.func98,Tryz.ntmps98
     go_wp2_with (first|(refine wpList_box rfl 88 _ rfl _ rfl (bSl _) ?_)|fail)
     go_ret
     exact⟨by rw[hf.out];rfl,hw⟩
   ·have e_r:decide (l≤m)=false:=by simp;omega
    omega
  ·have e_z:(l==0)=false:=by simp;omega
   by_cases h_r:l≤m
   ·have e_r:decide (l≤m)=true:=by simp;omega
    by_cases h_8:m≤4096
    ·have e_8:decide (m≤4096)=true:=by simp;omega
     have hf:Hid (fitN 9 l m n=true):=hide (by unfold fitN;rw[e_z,e_r,e_8];rfl)
     clear hl0 hm0 h_z h_r h_8
     go_enter Tryz.func98,Tryz.ntmps98
     go_wp2_with (first|(refine wpList_box rfl 88 _ rfl _ rfl (bSl _) ?_)|fail)
     go_ret
     exact⟨by rw[hf.out];rfl,hw⟩
    ·have e_8:decide (m≤4096)=false:=by simp;omega
     have hf:Hid (fitN 9 l m n=false):=hide (by unfold fitN;rw[e_z,e_r,e_8];rfl)
     clear hl0 hm0 h_z h_r h_8
     go_enter Tryz.func98,Tryz.ntmps98
     go_wp2_with (first|(refine wpList_box rfl 88 _ rfl _ rfl (bSl _) ?_)|fail)
     go_ret
     exact⟨by rw[hf.out];rfl,hw⟩
   ·have e_r:decide (l≤m)=false:=by simp;omega
    by_cases h_8:m≤4096
    ·have e_8:decide (m≤4096)=true:=by simp;omega
     have hf:Hid (fitN 9 l m n=false):=hide (by unfold fitN;rw[e_z,e_r,e_8];rfl)
     clear hl0 hm0 h_z h_r h_8
     go_enter Tryz.func98,Tryz.ntmps98
     go_wp2_with (first|(refine wpList_box rfl 88 _ rfl _ rfl (bSl _) ?_)|fail)
     go_ret
     exact⟨by rw[hf.out];rfl,hw⟩
    ·have e_8:decide (m≤4096)=false:=by simp;omega
     have hf:Hid (fitN 9 l m n=false):=hide (by unfold fitN;rw[e_z,e_r,e_8];rfl)
     clear hl0 hm0 h_z h_r h_8
     go_enter Tryz.func98,Tryz.ntmps98
     go_wp2_with (first|(refine wpList_box rfl 88 _ rfl _ rfl (bSl _) ?_)|fail)
     go_ret
     exact⟨by rw[hf.out];rfl,hw⟩
 ·have q1:(k==1)=false:=by simpa using h1
  have q2:(k==2)=false:=by simpa using h2
  have q3:(k==3)=false:=by simpa using h3
  have q4:(k==4)=false:=by simpa using h4
  have q5:(k==5)=false:=by simpa using h5
  have q6:(k==6)=false:=by simpa using h6
  have q7:(k==7)=false:=by simpa using h7
  have q8:(k==8)=false:=by simpa using h8
  have q9:(k==9)=false:=by simpa using h9
  by_cases h_z:l=0
  ·have e_z:(l==0)=true:=by simp;omega
   have hf:Hid (fitN k l m n=false):=hide (by unfold fitN fitB;rw[if_neg (by omega),if_neg h2,if_neg h4,if_neg (by omega),if_neg h7,if_neg h8,if_neg h9])
   clear hl0 hm0 h_z h1 h2 h3 h4 h5 h6 h7 h8 h9
   go_enter Tryz.func98,Tryz.ntmps98
   go_wp2_with (first|(refine wpList_box rfl 88 _ rfl _ rfl (bSl _) ?_)|fail)
   go_ret
   exact⟨by rw[hf.out];rfl,hw⟩
  ·have e_z:(l==0)=false:=by simp;omega
   have hf:Hid (fitN k l m n=false):=hide (by unfold fitN fitB;rw[if_neg (by omega),if_neg h2,if_neg h4,if_neg (by omega),if_neg h7,if_neg h8,if_neg h9])
   clear hl0 hm0 h_z h1 h2 h3 h4 h5 h6 h7 h8 h9
   go_enter Tryz.func98,Tryz.ntmps98
   go_wp2_with (first|(refine wpList_box rfl 88 _ rfl _ rfl (bSl _) ?_)|fail)
   go_ret
   exact⟨by rw[hf.out];rfl,hw⟩
end Go.Proofs.YtmmlkfkpblokiaaGreatDoor
