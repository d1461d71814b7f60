import Derived.Test.YtmmlkfkpblokiaaGreatDoorQzIra
set_option maxRecDepth 100000
set_option maxHeartbeats 16000000
namespace Go.Proofs.YtmmlkfkpblokiaaGreatDoor
open Go Go.RowKit Go.Sort
attribute [local go_sem] setCell_drewN alloc_drewN
def fagg (f:Fd) (u:Value):Value:=.agg #[.int .i64 f.no,.int .i64 f.ty,.int .u64 (f.num:Int),u]
theorem hd_or (a b:Nat) (ha:a≤536870911) (hb:b<8):bits .or .u64 ((a:Int)*8) (b:Int)=((8*a+b:Nat):Int):=by
 have h:=Nat.shiftLeft_add_eq_or_of_lt (i:=3) (b:=b) (by omega) a
 rw[Nat.shiftLeft_eq] at h
 have h2:=u64_or_nat (a*8) b (by omega) (by omega)
 rw[Int.natCast_mul] at h2
 rw[show(8:Int)=((8:Nat):Int) from rfl,h2,←h]
 congr 1
 omega
theorem a_headOf (f:Fd) (u:Value) (h0:0≤f.no) (h1:f.no≤536870911) (h2:0≤f.ty) (h3:f.ty<8):Gives 102 #[fagg f u] (.int .u64 (fhd f:Int)):=by
 intro w
 have e1:bits .or .u64 (f.no*8) f.ty=((fhd f:Nat):Int):=by
  have:=hd_or f.no.toNat f.ty.toNat (by omega) (by omega)
  rw[Int.toNat_of_nonneg h0,Int.toNat_of_nonneg h2] at this;exact this
 unfold fagg;have R0:=hp1_0 w (.cells #[.int .i64 f.no,.int .i64 f.ty,.int .u64 (f.num:Int),u] 118);have hw:Below w.heap.size w (w.alloc (.cells #[.int .i64 f.no,.int .i64 f.ty,.int .u64 (f.num:Int),u] 118)):=(Below.refl _ _).alloc (Nat.le_refl _) _;have c0:(w.alloc (.cells #[.int .i64 f.no,.int .i64 f.ty,.int .u64 (f.num:Int),u] 118)).cell? ⟨w.heap.size,0,none⟩=some (.int .i64 f.no):=cell_of_row _ _ _ _ _ _ R0;have c1:(w.alloc (.cells #[.int .i64 f.no,.int .i64 f.ty,.int .u64 (f.num:Int),u] 118)).cell? ⟨w.heap.size,1,none⟩=some (.int .i64 f.ty):=cell_of_row _ _ _ _ _ _ R0;have c2:(w.alloc (.cells #[.int .i64 f.no,.int .i64 f.ty,.int .u64 (f.num:Int),u] 118)).cell? ⟨w.heap.size,2,none⟩=some (.int .u64 (f.num:Int)):=cell_of_row _ _ _ _ _ _ R0;have c3:(w.alloc (.cells #[.int .i64 f.no,.int .i64 f.ty,.int .u64 (f.num:Int),u] 118)).cell? ⟨w.heap.size,3,none⟩=some (u):=cell_of_row _ _ _ _ _ _ R0
 go_enter Tryz.func102,Tryz.ntmps102
 clear R0
 go_wp2_with (fail)
 go_ret;refine⟨?_,hw⟩;rw[←e1]
 first|rfl|(congr 3;omega)
theorem a_checkHead (f:Fd) (u:Value) (last:Int):Gives 101 #[fagg f u,.int .i64 last] (.int .i64 (hck f last)):=by
 intro w;unfold fagg hck
 by_cases h1:f.no≤last
 ·have d1:decide (f.no≤last)=true:=decide_eq_true h1
  rw[if_pos (.inl h1)]
  have R0:=hp1_0 w (.cells #[.int .i64 f.no,.int .i64 f.ty,.int .u64 (f.num:Int),u] 118);have hw:Below w.heap.size w (w.alloc (.cells #[.int .i64 f.no,.int .i64 f.ty,.int .u64 (f.num:Int),u] 118)):=(Below.refl _ _).alloc (Nat.le_refl _) _;have c0:(w.alloc (.cells #[.int .i64 f.no,.int .i64 f.ty,.int .u64 (f.num:Int),u] 118)).cell? ⟨w.heap.size,0,none⟩=some (.int .i64 f.no):=cell_of_row _ _ _ _ _ _ R0;have c1:(w.alloc (.cells #[.int .i64 f.no,.int .i64 f.ty,.int .u64 (f.num:Int),u] 118)).cell? ⟨w.heap.size,1,none⟩=some (.int .i64 f.ty):=cell_of_row _ _ _ _ _ _ R0;have c2:(w.alloc (.cells #[.int .i64 f.no,.int .i64 f.ty,.int .u64 (f.num:Int),u] 118)).cell? ⟨w.heap.size,2,none⟩=some (.int .u64 (f.num:Int)):=cell_of_row _ _ _ _ _ _ R0;have c3:(w.alloc (.cells #[.int .i64 f.no,.int .i64 f.ty,.int .u64 (f.num:Int),u] 118)).cell? ⟨w.heap.size,3,none⟩=some (u):=cell_of_row _ _ _ _ _ _ R0
  go_enter Tryz.func101,Tryz.ntmps101
  clear R0
  go_wp2_with (fail)
  go_ret;exact⟨rfl,hw⟩
 have d1:decide (f.no≤last)=false:=decide_eq_false h1
 by_cases h2:536870911<f.no
 ·have d2:decide (f.no>536870911)=true:=decide_eq_true h2
  rw[if_pos (.inr h2)]
  have R0:=hp1_0 w (.cells #[.int .i64 f.no,.int .i64 f.ty,.int .u64 (f.num:Int),u] 118);have hw:Below w.heap.size w (w.alloc (.cells #[.int .i64 f.no,.int .i64 f.ty,.int .u64 (f.num:Int),u] 118)):=(Below.refl _ _).alloc (Nat.le_refl _) _;have c0:(w.alloc (.cells #[.int .i64 f.no,.int .i64 f.ty,.int .u64 (f.num:Int),u] 118)).cell? ⟨w.heap.size,0,none⟩=some (.int .i64 f.no):=cell_of_row _ _ _ _ _ _ R0;have c1:(w.alloc (.cells #[.int .i64 f.no,.int .i64 f.ty,.int .u64 (f.num:Int),u] 118)).cell? ⟨w.heap.size,1,none⟩=some (.int .i64 f.ty):=cell_of_row _ _ _ _ _ _ R0;have c2:(w.alloc (.cells #[.int .i64 f.no,.int .i64 f.ty,.int .u64 (f.num:Int),u] 118)).cell? ⟨w.heap.size,2,none⟩=some (.int .u64 (f.num:Int)):=cell_of_row _ _ _ _ _ _ R0;have c3:(w.alloc (.cells #[.int .i64 f.no,.int .i64 f.ty,.int .u64 (f.num:Int),u] 118)).cell? ⟨w.heap.size,3,none⟩=some (u):=cell_of_row _ _ _ _ _ _ R0
  go_enter Tryz.func101,Tryz.ntmps101
  clear R0
  go_wp2_with (fail)
  go_ret;exact⟨rfl,hw⟩
 have d2:decide (f.no>536870911)=false:=decide_eq_false h2
 rw[if_neg (by omega)]
 by_cases t0:f.ty=0
 ·rw[t0,if_pos (show known 0 from .inl rfl)]
  have R0:=hp1_0 w (.cells #[.int .i64 f.no,.int .i64 0,.int .u64 (f.num:Int),u] 118)
  have hw:Below w.heap.size w (w.alloc (.cells #[.int .i64 f.no,.int .i64 0,.int .u64 (f.num:Int),u] 118)):=(Below.refl _ _).alloc (Nat.le_refl _) _;have c0:(w.alloc (.cells #[.int .i64 f.no,.int .i64 0,.int .u64 (f.num:Int),u] 118)).cell? ⟨w.heap.size,0,none⟩=some (.int .i64 f.no):=cell_of_row _ _ _ _ _ _ R0;have c1:(w.alloc (.cells #[.int .i64 f.no,.int .i64 0,.int .u64 (f.num:Int),u] 118)).cell? ⟨w.heap.size,1,none⟩=some (.int .i64 0):=cell_of_row _ _ _ _ _ _ R0;have c2:(w.alloc (.cells #[.int .i64 f.no,.int .i64 0,.int .u64 (f.num:Int),u] 118)).cell? ⟨w.heap.size,2,none⟩=some (.int .u64 (f.num:Int)):=cell_of_row _ _ _ _ _ _ R0;have c3:(w.alloc (.cells #[.int .i64 f.no,.int .i64 0,.int .u64 (f.num:Int),u] 118)).cell? ⟨w.heap.size,3,none⟩=some (u):=cell_of_row _ _ _ _ _ _ R0
  go_enter Tryz.func101,Tryz.ntmps101
  clear R0 h1 h2
  go_wp2_with (fail)
  go_ret;exact⟨rfl,hw⟩
 by_cases t1:f.ty=1
 ·rw[t1,if_pos (show known 1 from .inr (.inl rfl))]
  have R0:=hp1_0 w (.cells #[.int .i64 f.no,.int .i64 1,.int .u64 (f.num:Int),u] 118)
  have hw:Below w.heap.size w (w.alloc (.cells #[.int .i64 f.no,.int .i64 1,.int .u64 (f.num:Int),u] 118)):=(Below.refl _ _).alloc (Nat.le_refl _) _;have c0:(w.alloc (.cells #[.int .i64 f.no,.int .i64 1,.int .u64 (f.num:Int),u] 118)).cell? ⟨w.heap.size,0,none⟩=some (.int .i64 f.no):=cell_of_row _ _ _ _ _ _ R0;have c1:(w.alloc (.cells #[.int .i64 f.no,.int .i64 1,.int .u64 (f.num:Int),u] 118)).cell? ⟨w.heap.size,1,none⟩=some (.int .i64 1):=cell_of_row _ _ _ _ _ _ R0;have c2:(w.alloc (.cells #[.int .i64 f.no,.int .i64 1,.int .u64 (f.num:Int),u] 118)).cell? ⟨w.heap.size,2,none⟩=some (.int .u64 (f.num:Int)):=cell_of_row _ _ _ _ _ _ R0;have c3:(w.alloc (.cells #[.int .i64 f.no,.int .i64 1,.int .u64 (f.num:Int),u] 118)).cell? ⟨w.heap.size,3,none⟩=some (u):=cell_of_row _ _ _ _ _ _ R0
  go_enter Tryz.func101,Tryz.ntmps101
  clear R0 h1 h2
  go_wp2_with (fail)
  go_ret;exact⟨rfl,hw⟩
 by_cases t2:f.ty=2
 ·rw[t2,if_pos (show known 2 from .inr (.inr (.inl rfl)))]
  have R0:=hp1_0 w (.cells #[.int .i64 f.no,.int .i64 2,.int .u64 (f.num:Int),u] 118)
  have hw:Below w.heap.size w (w.alloc (.cells #[.int .i64 f.no,.int .i64 2,.int .u64 (f.num:Int),u] 118)):=(Below.refl _ _).alloc (Nat.le_refl _) _;have c0:(w.alloc (.cells #[.int .i64 f.no,.int .i64 2,.int .u64 (f.num:Int),u] 118)).cell? ⟨w.heap.size,0,none⟩=some (.int .i64 f.no):=cell_of_row _ _ _ _ _ _ R0;have c1:(w.alloc (.cells #[.int .i64 f.no,.int .i64 2,.int .u64 (f.num:Int),u] 118)).cell? ⟨w.heap.size,1,none⟩=some (.int .i64 2):=cell_of_row _ _ _ _ _ _ R0;have c2:(w.alloc (.cells #[.int .i64 f.no,.int .i64 2,.int .u64 (f.num:Int),u] 118)).cell? ⟨w.heap.size,2,none⟩=some (.int .u64 (f.num:Int)):=cell_of_row _ _ _ _ _ _ R0;have c3:(w.alloc (.cells #[.int .i64 f.no,.int .i64 2,.int .u64 (f.num:Int),u] 118)).cell? ⟨w.heap.size,3,none⟩=some (u):=cell_of_row _ _ _ _ _ _ R0
  go_enter Tryz.func101,Tryz.ntmps101
  clear R0 h1 h2
  go_wp2_with (fail)
  go_ret;exact⟨rfl,hw⟩
 by_cases t5:f.ty=5
 ·rw[t5,if_pos (show known 5 from .inr (.inr (.inr rfl)))]
  have R0:=hp1_0 w (.cells #[.int .i64 f.no,.int .i64 5,.int .u64 (f.num:Int),u] 118)
  have hw:Below w.heap.size w (w.alloc (.cells #[.int .i64 f.no,.int .i64 5,.int .u64 (f.num:Int),u] 118)):=(Below.refl _ _).alloc (Nat.le_refl _) _;have c0:(w.alloc (.cells #[.int .i64 f.no,.int .i64 5,.int .u64 (f.num:Int),u] 118)).cell? ⟨w.heap.size,0,none⟩=some (.int .i64 f.no):=cell_of_row _ _ _ _ _ _ R0;have c1:(w.alloc (.cells #[.int .i64 f.no,.int .i64 5,.int .u64 (f.num:Int),u] 118)).cell? ⟨w.heap.size,1,none⟩=some (.int .i64 5):=cell_of_row _ _ _ _ _ _ R0;have c2:(w.alloc (.cells #[.int .i64 f.no,.int .i64 5,.int .u64 (f.num:Int),u] 118)).cell? ⟨w.heap.size,2,none⟩=some (.int .u64 (f.num:Int)):=cell_of_row _ _ _ _ _ _ R0;have c3:(w.alloc (.cells #[.int .i64 f.no,.int .i64 5,.int .u64 (f.num:Int),u] 118)).cell? ⟨w.heap.size,3,none⟩=some (u):=cell_of_row _ _ _ _ _ _ R0
  go_enter Tryz.func101,Tryz.ntmps101
  clear R0 h1 h2
  go_wp2_with (fail)
  go_ret;exact⟨rfl,hw⟩
 have q0:(f.ty==0)=false:=by simpa using t0
 have q1:(f.ty==1)=false:=by simpa using t1
 have q2:(f.ty==2)=false:=by simpa using t2
 have q5:(f.ty==5)=false:=by simpa using t5
 rw[if_neg (show¬known f.ty by unfold known;omega)]
 clear t0 t1 t2 t5;have R0:=hp1_0 w (.cells #[.int .i64 f.no,.int .i64 f.ty,.int .u64 (f.num:Int),u] 118);have hw:Below w.heap.size w (w.alloc (.cells #[.int .i64 f.no,.int .i64 f.ty,.int .u64 (f.num:Int),u] 118)):=(Below.refl _ _).alloc (Nat.le_refl _) _;have c0:(w.alloc (.cells #[.int .i64 f.no,.int .i64 f.ty,.int .u64 (f.num:Int),u] 118)).cell? ⟨w.heap.size,0,none⟩=some (.int .i64 f.no):=cell_of_row _ _ _ _ _ _ R0;have c1:(w.alloc (.cells #[.int .i64 f.no,.int .i64 f.ty,.int .u64 (f.num:Int),u] 118)).cell? ⟨w.heap.size,1,none⟩=some (.int .i64 f.ty):=cell_of_row _ _ _ _ _ _ R0;have c2:(w.alloc (.cells #[.int .i64 f.no,.int .i64 f.ty,.int .u64 (f.num:Int),u] 118)).cell? ⟨w.heap.size,2,none⟩=some (.int .u64 (f.num:Int)):=cell_of_row _ _ _ _ _ _ R0;have c3:(w.alloc (.cells #[.int .i64 f.no,.int .i64 f.ty,.int .u64 (f.num:Int),u] 118)).cell? ⟨w.heap.size,3,none⟩=some (u):=cell_of_row _ _ _ _ _ _ R0
 go_enter Tryz.func101,Tryz.ntmps101
 clear R0 h1 h2
 go_wp2_with (fail)
 go_ret;exact⟨rfl,hw⟩
theorem a_checkField (f:Fd) (ao:Option Addr) (cap:Nat) (last:Int):Gives 76 #[fagg f (.slice ao f.dat.length cap),.int .i64 last] (.int .i64 (fck f last)):=by
 intro w;obtain⟨u,hu⟩:∃u,Value.slice ao f.dat.length cap=u:=⟨_,rfl⟩;have cH:=a_checkHead f u last;rw[hu]
 unfold fagg at *
 have R0:=hp1_0 w (.cells #[.int .i64 f.no,.int .i64 f.ty,.int .u64 (f.num:Int),u] 118);have hw:Below w.heap.size w (w.alloc (.cells #[.int .i64 f.no,.int .i64 f.ty,.int .u64 (f.num:Int),u] 118)):=(Below.refl _ _).alloc (Nat.le_refl _) _;have c0:(w.alloc (.cells #[.int .i64 f.no,.int .i64 f.ty,.int .u64 (f.num:Int),u] 118)).cell? ⟨w.heap.size,0,none⟩=some (.int .i64 f.no):=cell_of_row _ _ _ _ _ _ R0;have c1:(w.alloc (.cells #[.int .i64 f.no,.int .i64 f.ty,.int .u64 (f.num:Int),u] 118)).cell? ⟨w.heap.size,1,none⟩=some (.int .i64 f.ty):=cell_of_row _ _ _ _ _ _ R0;have c2:(w.alloc (.cells #[.int .i64 f.no,.int .i64 f.ty,.int .u64 (f.num:Int),u] 118)).cell? ⟨w.heap.size,2,none⟩=some (.int .u64 (f.num:Int)):=cell_of_row _ _ _ _ _ _ R0;have c3:(w.alloc (.cells #[.int .i64 f.no,.int .i64 f.ty,.int .u64 (f.num:Int),u] 118)).cell? ⟨w.heap.size,3,none⟩=some (u):=cell_of_row _ _ _ _ _ _ R0
 go_enter Tryz.func76,Tryz.ntmps76
 have cH0:=cH (w.alloc (.cells #[.int .i64 f.no,.int .i64 f.ty,.int .u64 (f.num:Int),u] 118));clear cH
 go_wp2_with (first|(refine wpList_load_want rfl 118 _ rfl (w.heap.size) rfl 118 #[.int .i64 f.no,.int .i64 f.ty,.int .u64 (f.num:Int),u] (0,0) _ R0 Tryz.underlying118 rfl infoF ?_)|fail)
 generalize w.alloc (.cells #[.int .i64 f.no,.int .i64 f.ty,.int .u64 (f.num:Int),u] 118)=w0 at *
 refine cH0.mono ?_;rintro e_ w1 ⟨rfl,hb⟩;have l0:=lt_of_row R0;replace hw:=hw.trans (hb.mono hw.size);replace c1:=(hb.cell (p:=⟨w.heap.size,1,none⟩) l0).trans c1;replace c2:=(hb.cell (p:=⟨w.heap.size,2,none⟩) l0).trans c2;replace c3:=(hb.cell (p:=⟨w.heap.size,3,none⟩) l0).trans c3;clear hb R0 c0 cH0
 by_cases h0:hck f last=0
 ·have hfk:fck f last=if fits f then 0 else 1:=by unfold fck;rw[h0];rfl
  rw[h0]
  have hfk2:fits f↔if f.ty=2 then f.num=0 else f.dat=[]∧(f.ty=5→f.num≤4294967295):=Iff.rfl
  subst hu;clear h0
  by_cases t2:f.ty=2
  ·rw[t2] at c1
   rw[if_pos t2] at hfk2
   by_cases q:f.num=0
   ·rw[if_pos (hfk2.2 q)] at hfk
    clear hfk2
    replace hfk:=hide hfk;rw[q] at c2;clear q t2
    go_wp2_with (fail)
    go_ret
    exact⟨by rw[hfk.out];rfl,hw⟩
   ·rw[if_neg (fun h=>q (hfk2.1 h))] at hfk
    clear hfk2
    replace hfk:=hide hfk
    have d1:decide ((f.num:Int)>0)=true:=by simp;omega
    have d2:0<f.num:=by omega
    clear t2
    go_wp2_with (fail)
    go_ret
    exact⟨by rw[hfk.out];rfl,hw⟩
  ·rw[if_neg t2] at hfk2
   have q2:(f.ty==2)=false:=by simpa using t2
   by_cases q:f.dat=[]
   ·have hl:f.dat.length=0:=by rw[q];rfl
    rw[hl] at c3
    by_cases t5:f.ty=5
    ·rw[t5] at c1
     by_cases qn:f.num≤4294967295
     ·rw[if_pos (hfk2.2 ⟨q,fun _=>qn⟩)] at hfk
      clear hfk2
      replace hfk:=hide hfk
      have d1:decide ((f.num:Int)>4294967295)=false:=by simp;omega
      clear q2 t2 t5 q hl
      go_wp2_with (fail)
      go_ret
      exact⟨by rw[hfk.out];rfl,hw⟩
     ·rw[if_neg (fun h=>qn ((hfk2.1 h).2 t5))] at hfk
      clear hfk2
      replace hfk:=hide hfk
      have d1:decide ((f.num:Int)>4294967295)=true:=by simp;omega
      clear q2 t2 t5 q hl
      go_wp2_with (fail)
      go_ret
      exact⟨by rw[hfk.out];rfl,hw⟩
    ·rw[if_pos (hfk2.2 ⟨q,fun h=>absurd h t5⟩)] at hfk
     clear hfk2
     replace hfk:=hide hfk
     have q5:(f.ty==5)=false:=by simpa using t5
     clear t2 t5 q hl
     go_wp2_with (fail)
     go_ret
     exact⟨by rw[hfk.out];rfl,hw⟩
   ·rw[if_neg (fun h=>q (hfk2.1 h).1)] at hfk
    clear hfk2
    replace hfk:=hide hfk
    have hl:0<f.dat.length:=by
     rcases Nat.eq_zero_or_pos f.dat.length with h|h
     ·exact absurd (List.eq_nil_of_length_eq_zero h) q
     ·exact h
    have d1:decide ((f.dat.length:Int)>0)=true:=by simp;omega
    clear q t2
    go_wp2_with (fail)
    go_ret
    exact⟨by rw[hfk.out];rfl,hw⟩
 ·have hfk:Hid (fck f last=hck f last):=hide (by unfold fck;rw[if_pos h0])
  have he:(hck f last==0)=false:=by simpa using h0
  generalize hck f last=E at *
  clear h0
  go_wp2_with (fail)
  go_ret
  exact⟨by rw[hfk.out];rfl,hw⟩
theorem Fok.hd {f:Fd} (h1:f.no≤536870911) (h2:f.ty<8):fhd f<18446744073709551616:=by unfold fhd;omega
theorem a_sizeOfField (f:Fd) (ao:Option Addr) (cap:Nat) (hf:Fok f) (h0:0≤f.no) (h1:f.no≤536870911) (hk:known f.ty):Gives 77 #[fagg f (.slice ao f.dat.length cap)] (.int .i64 ((fby f).length:Int)):=by
 intro w;have ht:=known_lt hk;obtain⟨u,hu⟩:∃u,Value.slice ao f.dat.length cap=u:=⟨_,rfl⟩;have cH:=a_headOf f u h0 h1 ht.1 ht.2;have hhl:=Fok.hd h1 ht.2;have cS:=a_size (fhd f) hhl;have cN:=a_size f.num hf.1;have cI:=a_sizeOfItem f.dat ao cap hf.2.1;have hten:=en_ten hhl;have hten2:=en_ten hf.1;have hit:=itm_len f.dat
 have hten3:=en_ten (n:=f.dat.length) (by have:=hf.2.1;omega)
 have hl:(fby f).length=(en (fhd f)).length+(fvl f).length:=by rw[fby,List.length_append]
 have hfd:=hf.2.1
 have hvl:fvl f=if f.ty=0 then en f.num else if f.ty=1 then fx 8 f.num else if f.ty=5 then fx 4 f.num else itm f.dat:=rfl
 unfold known at hk;rw[hu]
 unfold fagg at *
 have R0:=hp1_0 w (.cells #[.int .i64 f.no,.int .i64 f.ty,.int .u64 (f.num:Int),u] 118);have hw:Below w.heap.size w (w.alloc (.cells #[.int .i64 f.no,.int .i64 f.ty,.int .u64 (f.num:Int),u] 118)):=(Below.refl _ _).alloc (Nat.le_refl _) _;have c0:(w.alloc (.cells #[.int .i64 f.no,.int .i64 f.ty,.int .u64 (f.num:Int),u] 118)).cell? ⟨w.heap.size,0,none⟩=some (.int .i64 f.no):=cell_of_row _ _ _ _ _ _ R0;have c1:(w.alloc (.cells #[.int .i64 f.no,.int .i64 f.ty,.int .u64 (f.num:Int),u] 118)).cell? ⟨w.heap.size,1,none⟩=some (.int .i64 f.ty):=cell_of_row _ _ _ _ _ _ R0;have c2:(w.alloc (.cells #[.int .i64 f.no,.int .i64 f.ty,.int .u64 (f.num:Int),u] 118)).cell? ⟨w.heap.size,2,none⟩=some (.int .u64 (f.num:Int)):=cell_of_row _ _ _ _ _ _ R0;have c3:(w.alloc (.cells #[.int .i64 f.no,.int .i64 f.ty,.int .u64 (f.num:Int),u] 118)).cell? ⟨w.heap.size,3,none⟩=some (u):=cell_of_row _ _ _ _ _ _ R0
 go_enter Tryz.func77,Tryz.ntmps77
 have cH0:=cH (w.alloc (.cells #[.int .i64 f.no,.int .i64 f.ty,.int .u64 (f.num:Int),u] 118));clear cH
 go_wp2_with (first|(refine wpList_load_want rfl 118 _ rfl (w.heap.size) rfl 118 #[.int .i64 f.no,.int .i64 f.ty,.int .u64 (f.num:Int),u] (0,0) _ R0 Tryz.underlying118 rfl infoF ?_)|fail)
 generalize w.alloc (.cells #[.int .i64 f.no,.int .i64 f.ty,.int .u64 (f.num:Int),u] 118)=w0 at *
 refine cH0.mono ?_;rintro e_ w1 ⟨rfl,hb⟩;have l0:=lt_of_row R0;replace hw:=hw.trans (hb.mono hw.size);replace c1:=(hb.cell (p:=⟨w.heap.size,1,none⟩) l0).trans c1;replace c2:=(hb.cell (p:=⟨w.heap.size,2,none⟩) l0).trans c2;replace c3:=(hb.cell (p:=⟨w.heap.size,3,none⟩) l0).trans c3;replace l0:w.heap.size<w1.heap.size:=Nat.lt_of_lt_of_le l0 hb.size;clear hb R0 c0 cH0;have cS1:=cS w1;clear cS
 generalize hHl:(en (fhd f)).length=H at *
 generalize fhd f=FH at *
 go_wp2_with (fail)
 refine cS1.mono ?_;rintro e_ w2 ⟨rfl,hb⟩;replace hw:=hw.trans (hb.mono hw.size);replace c1:=(hb.cell (p:=⟨w.heap.size,1,none⟩) l0).trans c1;replace c2:=(hb.cell (p:=⟨w.heap.size,2,none⟩) l0).trans c2;replace c3:=(hb.cell (p:=⟨w.heap.size,3,none⟩) l0).trans c3;clear hb cS1 hHl
 rcases hk with t|t|t|t
 ·rw[t] at c1
  have hl2:Hid ((fby f).length=H+(en f.num).length):=hide (by rw[hl,hvl,if_pos t])
  have cN2:=cN w2;clear hl hvl cN cI t hit
  generalize (en f.num).length=N at *
  go_wp2_with (fail)
  refine cN2.mono ?_;rintro e_ w3 ⟨rfl,hb⟩;replace hw:=hw.trans (hb.mono hw.size);clear hb cN2
  go_wp2_with (fail)
  go_ret
  exact⟨by rw[hl2.out,Int.natCast_add];rfl,hw⟩
 ·rw[t] at c1
  have hl2:Hid ((fby f).length=H+8):=hide (by rw[hl,hvl,if_neg (by omega),if_pos t,fx_len])
  clear hl hvl cN cI t hit
  go_wp2_with (fail)
  go_ret
  exact⟨by rw[hl2.out,Int.natCast_add];rfl,hw⟩
 ·rw[t] at c1
  have hl2:Hid ((fby f).length=H+(itm f.dat).length):=hide (by rw[hl,hvl,if_neg (by omega),if_neg (by omega),if_neg (by omega)])
  have cN2:=cI w2;rw[←hu] at c3
  have hnb:(itm f.dat).length≤140737488351250:=by omega
  clear hl hvl cN cI t hu hit
  generalize (itm f.dat).length=N at *
  generalize f.dat.length=P at *
  go_wp2_with (fail)
  refine cN2.mono ?_;rintro e_ w3 ⟨rfl,hb⟩;replace hw:=hw.trans (hb.mono hw.size);clear hb cN2
  go_wp2_with (fail)
  go_ret
  exact⟨by rw[hl2.out,Int.natCast_add];rfl,hw⟩
 ·rw[t] at c1
  have hl2:Hid ((fby f).length=H+4):=hide (by rw[hl,hvl,if_neg (by omega),if_neg (by omega),if_pos t,fx_len])
  clear hl hvl cN cI t hit
  go_wp2_with (fail)
  go_ret
  exact⟨by rw[hl2.out,Int.natCast_add];rfl,hw⟩
theorem a_addField (d:List B) (f:Fd) (base:Nat) (w:World) (v:Value) (ao:Option Addr) (cap:Nat) (hO:Own w base v d) (hb0:base≤w.heap.size) (hu:BysB w (.slice ao f.dat.length cap) f.dat) (hne:∀a,ao=some a→0<f.dat.length→v.ownBlock≠some a.block) (hf:Fok f) (h0:0≤f.no) (h1:f.no≤536870911) (hk:known f.ty) (hl:d.length+(fby f).length≤140737488355000):Calls Tryz.prog 78 #[v,fagg f (.slice ao f.dat.length cap)] w fun e w'=>∃x,e=.returned x∧(Own w' base x (d++fby f)∧Frm w w' v∧Nx w v x)∧Below base w w':=by
 have ht:=known_lt hk;have hhl:=Fok.hd h1 ht.2;have hten:=en_ten hhl;have hep:=en_pos (fhd f)
 have hfl:(fby f).length=(en (fhd f)).length+(fvl f).length:=by rw[fby,List.length_append]
 have hvl:fvl f=if f.ty=0 then en f.num else if f.ty=1 then fx 8 f.num else if f.ty=5 then fx 4 f.num else itm f.dat:=rfl
 have hfb:fby f=en (fhd f)++fvl f:=rfl;have hfd:=hf.2.1;have hnum:=hf.1
 have hvb:v.ownBlock≠some w.heap.size:=fun e=>by have:=own_high hO _ e;omega
 obtain⟨u,hue⟩:∃u,Value.slice ao f.dat.length cap=u:=⟨_,rfl⟩;have cH:=a_headOf f u h0 h1 ht.1 ht.2;unfold known at hk;rw[hue]
 unfold fagg at *
 have R0:=hp1_0 w (.cells #[.int .i64 f.no,.int .i64 f.ty,.int .u64 (f.num:Int),u] 118);have hw:Below w.heap.size w (w.alloc (.cells #[.int .i64 f.no,.int .i64 f.ty,.int .u64 (f.num:Int),u] 118)):=(Below.refl _ _).alloc (Nat.le_refl _) _;have c0:(w.alloc (.cells #[.int .i64 f.no,.int .i64 f.ty,.int .u64 (f.num:Int),u] 118)).cell? ⟨w.heap.size,0,none⟩=some (.int .i64 f.no):=cell_of_row _ _ _ _ _ _ R0;have c1:(w.alloc (.cells #[.int .i64 f.no,.int .i64 f.ty,.int .u64 (f.num:Int),u] 118)).cell? ⟨w.heap.size,1,none⟩=some (.int .i64 f.ty):=cell_of_row _ _ _ _ _ _ R0;have c2:(w.alloc (.cells #[.int .i64 f.no,.int .i64 f.ty,.int .u64 (f.num:Int),u] 118)).cell? ⟨w.heap.size,2,none⟩=some (.int .u64 (f.num:Int)):=cell_of_row _ _ _ _ _ _ R0;have c3:(w.alloc (.cells #[.int .i64 f.no,.int .i64 f.ty,.int .u64 (f.num:Int),u] 118)).cell? ⟨w.heap.size,3,none⟩=some (u):=cell_of_row _ _ _ _ _ _ R0
 go_enter Tryz.func78,Tryz.ntmps78
 have cH0:=cH (w.alloc (.cells #[.int .i64 f.no,.int .i64 f.ty,.int .u64 (f.num:Int),u] 118));have hwb:Below base w (w.alloc (.cells #[.int .i64 f.no,.int .i64 f.ty,.int .u64 (f.num:Int),u] 118)):=(Below.refl _ _).alloc hb0 _;have hF:=(Frm.refl w v).alloc (Nat.le_refl _) (.cells #[.int .i64 f.no,.int .i64 f.ty,.int .u64 (f.num:Int),u] 118);have hOa:=own_alloc hO (.cells #[.int .i64 f.no,.int .i64 f.ty,.int .u64 (f.num:Int),u] 118);clear cH hO
 go_wp2_with (first|(refine wpList_load_want rfl 118 _ rfl (w.heap.size) rfl 118 #[.int .i64 f.no,.int .i64 f.ty,.int .u64 (f.num:Int),u] (0,0) _ R0 Tryz.underlying118 rfl infoF ?_)|fail)
 generalize w.alloc (.cells #[.int .i64 f.no,.int .i64 f.ty,.int .u64 (f.num:Int),u] 118)=w0 at *
 refine cH0.mono ?_;rintro e_ w1 ⟨rfl,hb⟩;have l0:=lt_of_row R0;replace hwb:=hwb.trans (hb.mono (Nat.le_trans hb0 (Nat.le_of_lt l0)));replace hF:=hF.below (Nat.le_of_lt l0) hb;replace c1:=(hb.cell (p:=⟨w.heap.size,1,none⟩) l0).trans c1;replace c2:=(hb.cell (p:=⟨w.heap.size,2,none⟩) l0).trans c2;replace c3:=(hb.cell (p:=⟨w.heap.size,3,none⟩) l0).trans c3;replace hOa:=hOa.keep hb;replace l0:w.heap.size<w1.heap.size:=Nat.lt_of_lt_of_le l0 hb.size;clear hb R0 c0 cH0
 have cN:=a_addNumberN d (fhd f) hhl base w1 v hOa (by omega) (by omega)
 generalize hE:en (fhd f)=E at *
 generalize fhd f=FH at *
 go_wp2_with (fail)
 refine cN.mono ?_;rintro e_ w2 ⟨v2,rfl,⟨hO2,hF2,hN2⟩,hb⟩;have s2:=hb.size;replace hwb:=hwb.trans hb;replace hF:=hF.trans (Nat.le_of_lt l0) (Nx.refl _ _) hF2;replace hN2:Nx w v v2:=(Nx.refl w v).trans (Nat.le_of_lt l0) hN2;replace c1:=(hF2.cell (o:=1) l0 hvb).trans c1;replace c2:=(hF2.cell (o:=2) l0 hvb).trans c2;replace c3:=(hF2.cell (o:=3) l0 hvb).trans c3;clear hb cN hOa hF2
 have hD:d++fby f=(d++E)++fvl f:=by rw[hfb,List.append_assoc]
 replace hD:=hide hD;have hDl:(d++E).length=d.length+E.length:=List.length_append
 rcases hk with t|t|t|t
 ·rw[t] at c1
  rw[if_pos t] at hvl
  rw[hvl] at hD
  have hlv:(en f.num).length=(fvl f).length:=by rw[hvl]
  have cX:=a_addNumberN (d++E) f.num hnum base w2 v2 hO2 (by omega) (by have:=en_ten hnum;omega)
  clear hvl hfb hfl hlv hDl t hu
  generalize d++E=D at *
  generalize hZ:en f.num=Z at *
  go_wp2_with (fail)
  refine cX.mono ?_;rintro e_ w3 ⟨v3,rfl,⟨hO3,hF3,hN3⟩,hb⟩;replace hwb:=hwb.trans hb
  replace hF:=hF.trans (by omega) hN2 hF3
  have hN:=hN2.trans (by omega) hN3
  clear hb cX
  go_wp2_with (fail)
  go_ret
  exact⟨v3,rfl,⟨by rw[hD.out];exact hO3,hF,hN⟩,hwb⟩
 ·rw[t] at c1
  rw[if_neg (by omega),if_pos t] at hvl
  rw[hvl] at hD
  have hlv:(fx 8 f.num).length=(fvl f).length:=by rw[hvl]
  have cX:=a_addFixedN (d++E) f.num 8 (by omega) base w2 v2 hO2 (by omega) (by rw[fx_len] at hlv;omega)
  clear hvl hfb hfl hlv hDl t hu
  generalize d++E=D at *
  generalize hZ:fx 8 f.num=Z at *
  go_wp2_with (fail)
  refine cX.mono ?_;rintro e_ w3 ⟨v3,rfl,⟨hO3,hF3,hN3⟩,hb⟩;replace hwb:=hwb.trans hb
  replace hF:=hF.trans (by omega) hN2 hF3
  have hN:=hN2.trans (by omega) hN3
  clear hb cX
  go_wp2_with (fail)
  go_ret
  exact⟨v3,rfl,⟨by rw[hD.out];exact hO3,hF,hN⟩,hwb⟩
 ·rw[t] at c1
  rw[if_neg (by omega),if_neg (by omega),if_neg (by omega)] at hvl
  rw[hvl] at hD
  have hlv:(itm f.dat).length=(fvl f).length:=by rw[hvl]
  have hun:∀V,Frm w2 V v2→w2.heap.size≤V.heap.size→BysB V u f.dat:=fun V hV hs=>by
   have hFV:Frm w V v:=hF.trans (by omega) hN2 hV
   refine hFV.bys (by omega) (by rw[←hue];exact hu) (fun a l c e hl=>?_)
   rw[←hue] at e
   cases e
   exact hne a rfl hl
  have hu2:=hun w2 (Frm.refl _ _) (Nat.le_refl _)
  have cX:=a_addItemN (d++E) f.dat base w2 v2 u hO2 hu2 hun (by omega) (by omega)
  clear hvl hfb hfl hlv hDl t hu hun hu2
  generalize d++E=D at *
  generalize hZ:itm f.dat=Z at *
  go_wp2_with (fail)
  refine cX.mono ?_;rintro e_ w3 ⟨v3,rfl,⟨hO3,hF3,hN3⟩,hb⟩;replace hwb:=hwb.trans hb
  replace hF:=hF.trans (by omega) hN2 hF3
  have hN:=hN2.trans (by omega) hN3
  clear hb cX
  go_wp2_with (fail)
  go_ret
  exact⟨v3,rfl,⟨by rw[hD.out];exact hO3,hF,hN⟩,hwb⟩
 ·rw[t] at c1
  rw[if_neg (by omega),if_neg (by omega),if_pos t] at hvl
  rw[hvl] at hD
  have hlv:(fx 4 f.num).length=(fvl f).length:=by rw[hvl]
  have cX:=a_addFixedN (d++E) f.num 4 (by omega) base w2 v2 hO2 (by omega) (by rw[fx_len] at hlv;omega)
  clear hvl hfb hfl hlv hDl t hu
  generalize d++E=D at *
  generalize hZ:fx 4 f.num=Z at *
  go_wp2_with (fail)
  refine cX.mono ?_;rintro e_ w3 ⟨v3,rfl,⟨hO3,hF3,hN3⟩,hb⟩;replace hwb:=hwb.trans hb
  replace hF:=hF.trans (by omega) hN2 hF3
  have hN:=hN2.trans (by omega) hN3
  clear hb cX
  go_wp2_with (fail)
  go_ret
  exact⟨v3,rfl,⟨by rw[hD.out];exact hO3,hF,hN⟩,hwb⟩
theorem lst_nn {fs:List Fd}:∀k,(∀i,i<k→fck (gf fs i) (lst fs i)=0)→0≤lst fs k
 |0,_=>by rw[lst,if_pos rfl];exact Int.le_refl _
 |k+1,h=>by
  have h1:=lst_nn k (fun i hi=>h i (by omega))
  have h2:=(fck_ok (h k (by omega))).1
  rw[lst_succ];omega
theorem ech_at {fs:List Fd}:∀k,k≤fs.length→(∀i,i<k→fck (gf fs i) (lst fs i)=0)→ech fs 0=ech (fs.drop k) (lst fs k)
 |0,_,_=>by rw[lst,if_pos rfl];rfl
 |k+1,hk,h=>by
  rw[ech_at k (by omega) (fun i hi=>h i (by omega)),fdrop_at fs k (by omega),ech,if_neg (by rw[h k (by omega)];simp),lst_succ]
theorem fvl_bd {f:Fd} (hf:Fok f):(fvl f).length≤140737488351242:=by
 have h1:=en_ten hf.1;have h2:=itm_len f.dat
 have h3:=en_ten (n:=f.dat.length) (by have:=hf.2.1;omega)
 have h4:=hf.2.1;unfold fvl
 split
 ·omega
 ·split
  ·rw[fx_len];omega
  ·split
   ·rw[fx_len];omega
   ·omega
theorem fby_bd {f:Fd} (hf:Fok f) (h1:f.no≤536870911) (h2:f.ty<8):(fby f).length≤140737488351252:=by
 have:=fvl_bd hf;have:=en_ten (Fok.hd h1 h2);rw[fby,List.length_append];omega
theorem ebs_bd {fs:List Fd} (hF:∀i,i<fs.length→Fok (gf fs i)):∀k,k≤fs.length→(∀i,i<k→fck (gf fs i) (lst fs i)=0)→(ebs (fs.take k)).length≤k*140737488351252
 |0,_,_=>by simp[ebs]
 |k+1,hk,h=>by
  have h1:=ebs_bd hF k (by omega) (fun i hi=>h i (by omega))
  have h2:=fck_ok (h k (by omega))
  have h3:=fby_bd (hF k (by omega)) h2.2.1 (known_lt h2.2.2.1).2
  rw[ebs_snoc fs k (by omega),List.length_append]
  omega
theorem Fds.oks {W:World} {v:Value} {fs:List Fd} (h:Fds W v fs):∀i,i<fs.length→Fok (gf fs i):=fun _ hi=>h.ok hi
theorem a_encode (fs:List Fd) (w:World) (v:Value) (hB:Fds w v fs):Calls Tryz.prog 53 #[v] w fun e w'=>∃u,e=.returned (.tuple #[u,.int .i64 (eer fs)])∧Own w' w.heap.size u (eout fs)∧Below w.heap.size w w':=by
 have hlen:=hB.len;have hoks:=hide hB.oks;obtain⟨ao,cap,rfl⟩:=hB.form
 by_cases h1:64<fs.length
 ·have d1:decide ((fs.length:Int)>64)=true:=by simp;omega
  have e1:eer fs=2:=if_pos h1
  have e2:eout fs=[]:=if_neg (by rw[e1];decide)
  rw[e1,e2]
  go_enter Tryz.func53,Tryz.ntmps53
  go_wp2_with (fail)
  go_ret2;exact⟨_,rfl,own_none _ _,Below.refl _ _⟩
 ·have d1:decide ((fs.length:Int)>64)=false:=by simp;omega
  have hee:Hid (eer fs=if ech fs 0≠0 then ech fs 0 else if 4194304<(ebs fs).length then 2 else 0):=hide (if_neg h1)
  go_enter Tryz.func53,Tryz.ntmps53
  go_wp2_with (fail)
  go_loopw [4,5,17] (fun s l i wr=>∃k:Nat,k≤fs.length∧i=.int .i64 k∧s=.int .i64 ((ebs (fs.take k)).length:Int)∧l=.int .i64 (lst fs k)∧(∀i,i<k→fck (gf fs i) (lst fs i)=0)∧Below w.heap.size w wr) (fun _ _ i _=>fs.length-(intOf i).toNat)
  case atStart=>exact⟨0,by omega,rfl,rfl,rfl,fun i hi=>by omega,Below.refl _ _⟩
  case round=>
   obtain⟨k,hk,rfl,rfl,rfl,hck,hw⟩:=hrel;have hbk:=ebs_bd hoks.out k hk hck;have hln:=lst_nn k hck;have hech:=ech_at k hk hck
   by_cases hlt:k<fs.length
   ·have hd:decide ((k:Int)<(fs.length:Int))=true:=by simp;omega
    obtain⟨b,off,uo,uc,e,hb1,hb2,hb3,hb4⟩:=hB.at hlt
    subst e;have hbr:=hb2;replace hb2:=range_keep2 (w:=w) hb2 hw hb1
    have hk1:0≤(k:Int)∧(k:Int)<(fs.length:Int):=by omega
    rw[fdrop_at fs k hlt,ech] at hech;replace hck:=hide hck;have cC:=a_checkField (gf fs k) uo uc (lst fs k);unfold fagg at cC
    have hsn:Hid ((ebs (fs.take (k+1))).length=(ebs (fs.take k)).length+(fby (gf fs k)).length):=hide (by rw[ebs_snoc fs k hlt,List.length_append])
    clear hb3 hbr;unfold frow at hb2
    generalize hS:(ebs (fs.take k)).length=S at *
    have r0:=hp1_0 wr (.cells #[.int .i64 0,.int .i64 0,.int .u64 0,nS] 118);have hba:Below wr.heap.size wr (wr.alloc (.cells #[.int .i64 0,.int .i64 0,.int .u64 0,nS] 118)):=(Below.refl _ _).alloc (Nat.le_refl _) _;have r1:=setRow_heap _ wr.heap.size _ #[.int .i64 (gf fs k).no,.int .i64 (gf fs k).ty,.int .u64 ((gf fs k).num:Int),.slice uo (gf fs k).dat.length uc] _ _ r0;replace hba:=below_setRow hba (Nat.le_refl _) #[.int .i64 (gf fs k).no,.int .i64 (gf fs k).ty,.int .u64 ((gf fs k).num:Int),.slice uo (gf fs k).dat.length uc]
    have hone:(#[.int .i64 (gf fs k).no,.int .i64 (gf fs k).ty,.int .u64 ((gf fs k).num:Int),.slice uo (gf fs k).dat.length uc]:Array Value).all (·.oneCell')=true:=by simp[Value.oneCell']
    have c0:((wr.alloc (.cells #[.int .i64 0,.int .i64 0,.int .u64 0,nS] 118)).setRow wr.heap.size #[.int .i64 (gf fs k).no,.int .i64 (gf fs k).ty,.int .u64 ((gf fs k).num:Int),.slice uo (gf fs k).dat.length uc]).cell? ⟨wr.heap.size,0,none⟩=some (.int .i64 (gf fs k).no):=cell_of_row _ _ _ _ _ _ r1
    go_wp2_with (first|(refine wpList_load_fd rfl _ rfl b (off+k*4) rfl _ _ _ _ hb2 ?_)|(refine wpList_alloc rfl 118 rfl #[.int .i64 0,.int .i64 0,.int .u64 0,nS] zFd ?_)|(refine wpList_store_row rfl 118 _ _ rfl (wr.heap.size) #[.int .i64 (gf fs k).no,.int .i64 (gf fs k).ty,.int .u64 ((gf fs k).num:Int),.slice uo (gf fs k).dat.length uc] rfl rfl 118 _ r0 infoF rfl hone ?_)|(refine wpList_load_want rfl 118 _ rfl (wr.heap.size) rfl 118 #[.int .i64 (gf fs k).no,.int .i64 (gf fs k).ty,.int .u64 ((gf fs k).num:Int),.slice uo (gf fs k).dat.length uc] (0,0) _ r1 Tryz.underlying118 rfl infoF ?_)|fail)
    have l0:=lt_of_row r1
    generalize (wr.alloc (.cells #[.int .i64 0,.int .i64 0,.int .u64 0,nS] 118)).setRow wr.heap.size #[.int .i64 (gf fs k).no,.int .i64 (gf fs k).ty,.int .u64 ((gf fs k).num:Int),.slice uo (gf fs k).dat.length uc]=w0 at *
    clear r0 hone;replace hw:=Below.after hw hba;clear hb2;have cC0:=cC w0;clear cC;refine cC0.mono ?_;rintro e_ w1 ⟨rfl,hb⟩;replace hw:=Below.after hw hb;replace r1:=keep hb r1;replace c0:=(hb.cell (p:=⟨wr.heap.size,0,none⟩) l0).trans c0;replace l0:=Nat.lt_of_lt_of_le l0 hb.size;clear hb cC0 hba
    by_cases he:fck (gf fs k) (lst fs k)=0
    ·rw[if_neg (by rw[he];simp)] at hech
     have hfo:=fck_ok he
     have cS:=a_sizeOfField (gf fs k) uo uc hb4 (by omega) hfo.2.1 hfo.2.2.1 w1
     unfold fagg at cS;have hfb:=fby_bd hb4 hfo.2.1 (known_lt hfo.2.2.1).2
     have hck2:Hid (∀i,i<k+1→fck (gf fs i) (lst fs i)=0):=hide (fun i hi=>by
      rcases Nat.lt_or_ge i k with q|q
      ·exact hck.out i q
      ·obtain rfl:i=k:=by omega
       exact he)
     rw[he];clear he hech hfo
     generalize (fby (gf fs k)).length=F at *
     go_wp2_with (first|(refine wpList_load_want rfl 118 _ rfl (wr.heap.size) rfl 118 #[.int .i64 (gf fs k).no,.int .i64 (gf fs k).ty,.int .u64 ((gf fs k).num:Int),.slice uo (gf fs k).dat.length uc] (0,0) _ r1 Tryz.underlying118 rfl infoF ?_)|fail)
     refine cS.mono ?_;rintro e_ w2 ⟨rfl,hb⟩;replace hw:=Below.after hw hb;replace c0:=(hb.cell (p:=⟨wr.heap.size,0,none⟩) l0).trans c0;clear hb cS r1
     have hsum:(S:Int)+(F:Int)≤9223372036854775807:=by omega
     go_wp2_with (fail)
     refine⟨⟨k+1,by omega,by go_num,by rw[hsn.out,Int.natCast_add],by rw[lst_succ],hck2.out,hw⟩,?_⟩
     simp[intOf];omega
    ·have hn:ech fs 0=fck (gf fs k) (lst fs k):=by rw[hech,if_pos he]
     have e1:eer fs=fck (gf fs k) (lst fs k):=by rw[hee.out,if_pos (by rw[hn];exact he),hn]
     have e2:eout fs=[]:=if_neg (by rw[e1];exact he)
     have hq:(fck (gf fs k) (lst fs k)==0)=false:=by simpa using he
     have hfin:Hid (eer fs=fck (gf fs k) (lst fs k)∧eout fs=[]):=hide ⟨e1,e2⟩;clear e1 e2 hn hech he hck hee
     generalize fck (gf fs k) (lst fs k)=E at *
     go_wp2_with (fail)
     go_ret2;rw[hfin.out.1,hfin.out.2];exact⟨_,rfl,own_none _ _,hw⟩
   ·obtain rfl:k=fs.length:=by omega
    have hd:decide ((fs.length:Int)<(fs.length:Int))=false:=by simp
    rw[List.drop_length,ech] at hech;rw[List.take_length] at hbk;rw[List.take_length]
    have hee2:eer fs=if 4194304<(ebs fs).length then 2 else 0:=by rw[hee.out,if_neg (by rw[hech];simp)]
    by_cases h2:4194304<(ebs fs).length
    ·rw[if_pos h2] at hee2
     have e2:eout fs=[]:=if_neg (by rw[hee2];decide)
     have hfin:Hid (eer fs=2∧eout fs=[]):=hide ⟨hee2,e2⟩;clear hee hee2 e2 hech hck
     generalize (ebs fs).length=S at *
     have d2:decide ((S:Int)>4194304)=true:=by simp;omega
     go_wp2_with (fail)
     go_ret2;rw[hfin.out.1,hfin.out.2];exact⟨_,rfl,own_none _ _,hw⟩
    ·rw[if_neg h2] at hee2
     have e2:eout fs=ebs fs:=if_pos hee2
     have hfin:Hid (eer fs=0∧eout fs=ebs fs):=hide ⟨hee2,e2⟩;clear hee hee2 e2 hech;have hmono:=ebs_mono fs
     have hmk:=make_lc 0 (ebs fs).length (by omega) (by omega) wr
     rw[show((0:Nat):Int)=0 from rfl] at hmk
     have r0:=hp1_0 wr (.cells (irow .u8 (zr (ebs fs).length)) 5);have hw0:=hw.alloc hw.size (.cells (irow .u8 (zr (ebs fs).length)) 5)
     have hO0:Own (wr.alloc (.cells (irow .u8 (zr (ebs fs).length)) 5)) w.heap.size (.slice (some ⟨wr.heap.size,0,none⟩) 0 (ebs fs).length) []:=by
      have:=own_of_row (d:=[]) (T:=zr (ebs fs).length) (b:=w.heap.size) r0 hw.size (by rw[zr_len];unfold maxLen;simp;omega)
      rw[zr_len] at this
      simpa using this
     replace hck:=hide hck;clear r0
     generalize hS:(ebs fs).length=S at *
     have d2:decide ((S:Int)>4194304)=false:=by simp;omega
     go_wp2_with (fail)
     generalize wr.alloc (.cells (irow .u8 (zr S)) 5)=w2 at *
     clear hmk
     go_loopw [9,40] (fun s i wr=>∃(k:Nat) (so:Option Addr) (sc:Nat),k≤fs.length∧i=.int .i64 k∧s=.slice so (ebs (fs.take k)).length sc∧Own wr w.heap.size (.slice so (ebs (fs.take k)).length sc) (ebs (fs.take k))∧Below w.heap.size w wr) (fun _ i _=>fs.length-(intOf i).toNat)
     case atStart=>exact⟨0,_,_,by omega,rfl,rfl,hO0,hw0⟩
     case round=>
      clear hO0 hw0 hw;obtain⟨k,so,sc,hk,rfl,rfl,hO,hw⟩:=hrel
      by_cases hlt:k<fs.length
      ·have hd2:decide ((k:Int)<(fs.length:Int))=true:=by simp;omega
       obtain⟨b,off,uo,uc,e,hb1,hb2,hb3,hb4⟩:=hB.at hlt
       subst e;replace hb2:=range_keep2 (w:=w) hb2 hw hb1
       have hk1:0≤(k:Int)∧(k:Int)<(fs.length:Int):=by omega
       have hsn:Hid (ebs (fs.take (k+1))=ebs (fs.take k)++fby (gf fs k)):=hide (ebs_snoc fs k hlt);have hmk:=hmono (k+1);rw[hsn.out,List.length_append] at hmk;have hfo:=fck_ok (hck.out k hlt)
       have hln:=lst_nn k (fun i hi=>hck.out i (by omega))
       unfold frow at hb2
       generalize hJ:ebs (fs.take k)=J at *
       have r0:=hp1_0 wr (.cells #[.int .i64 0,.int .i64 0,.int .u64 0,nS] 118);have hba:Below wr.heap.size wr (wr.alloc (.cells #[.int .i64 0,.int .i64 0,.int .u64 0,nS] 118)):=(Below.refl _ _).alloc (Nat.le_refl _) _;have r1:=setRow_heap _ wr.heap.size _ #[.int .i64 (gf fs k).no,.int .i64 (gf fs k).ty,.int .u64 ((gf fs k).num:Int),.slice uo (gf fs k).dat.length uc] _ _ r0;replace hba:=below_setRow hba (Nat.le_refl _) #[.int .i64 (gf fs k).no,.int .i64 (gf fs k).ty,.int .u64 ((gf fs k).num:Int),.slice uo (gf fs k).dat.length uc]
       have hone:(#[.int .i64 (gf fs k).no,.int .i64 (gf fs k).ty,.int .u64 ((gf fs k).num:Int),.slice uo (gf fs k).dat.length uc]:Array Value).all (·.oneCell')=true:=by simp[Value.oneCell']
       have c0:((wr.alloc (.cells #[.int .i64 0,.int .i64 0,.int .u64 0,nS] 118)).setRow wr.heap.size #[.int .i64 (gf fs k).no,.int .i64 (gf fs k).ty,.int .u64 ((gf fs k).num:Int),.slice uo (gf fs k).dat.length uc]).cell? ⟨wr.heap.size,0,none⟩=some (.int .i64 (gf fs k).no):=cell_of_row _ _ _ _ _ _ r1
       go_wp2_with (first|(refine wpList_load_fd rfl _ rfl b (off+k*4) rfl _ _ _ _ hb2 ?_)|(refine wpList_alloc rfl 118 rfl #[.int .i64 0,.int .i64 0,.int .u64 0,nS] zFd ?_)|(refine wpList_store_row rfl 118 _ _ rfl (wr.heap.size) #[.int .i64 (gf fs k).no,.int .i64 (gf fs k).ty,.int .u64 ((gf fs k).num:Int),.slice uo (gf fs k).dat.length uc] rfl rfl 118 _ r0 infoF rfl hone ?_)|(refine wpList_load_want rfl 118 _ rfl (wr.heap.size) rfl 118 #[.int .i64 (gf fs k).no,.int .i64 (gf fs k).ty,.int .u64 ((gf fs k).num:Int),.slice uo (gf fs k).dat.length uc] (0,0) _ r1 Tryz.underlying118 rfl infoF ?_)|fail)
       have l0:=lt_of_row r1
       generalize (wr.alloc (.cells #[.int .i64 0,.int .i64 0,.int .u64 0,nS] 118)).setRow wr.heap.size #[.int .i64 (gf fs k).no,.int .i64 (gf fs k).ty,.int .u64 ((gf fs k).num:Int),.slice uo (gf fs k).dat.length uc]=w0 at *
       clear r0 hone;replace hO:=hO.keep hba;replace hw:=Below.after hw hba
       have hlow:∀a,uo=some a→0<(gf fs k).dat.length→(Value.slice so J.length sc).ownBlock≠some a.block:=fun a ha hl e=>by
        have h1:=own_low hO _ e;obtain⟨b9,o9,e8,hb9,_⟩:=hb3.cellAt (j:=0) hl;rw[ha] at e8
        cases e8
        simp only at h1;omega
       have cA:=a_addField J (gf fs k) w.heap.size w0 _ uo uc hO hw.size (hb3.keep hw) hlow hb4 (by omega) hfo.2.1 hfo.2.2.1 (by omega)
       unfold fagg at cA;clear hb2 hb3 hO hmk hlow c0
       generalize hG:fby (gf fs k)=G at *
       refine cA.mono ?_;rintro e_ w3 ⟨x,rfl,⟨hx,_,_⟩,hb⟩;replace hw:=hw.trans hb;obtain⟨xo,xc,rfl⟩:=slen_own hx;clear cA hb
       go_wp2_with (fail)
       refine⟨⟨k+1,xo,xc,by omega,by go_num,by rw[hsn.out,List.length_append],by rw[hsn.out];exact hx,hw⟩,?_⟩
       simp[intOf];omega
      ·obtain rfl:k=fs.length:=by omega
       have hd2:decide ((fs.length:Int)<(fs.length:Int))=false:=by simp
       rw[List.take_length] at hO;rw[List.take_length]
       generalize hJ:ebs fs=J at *
       go_wp2_with (fail)
       go_ret2;rw[hfin.out.1,hfin.out.2];exact⟨_,rfl,hO,hw⟩
theorem info48:∃i,Tryz.prog.info? 118=some i∧i.zero=some (.agg #[.int .i64 0,.int .i64 0,.int .u64 0,nS])∧i.size=4∧i.bytes=48:=⟨_,rfl,rfl,rfl,rfl⟩
def frs:List Fd→List Value→List Value
 |f::fs,u::us=>frow f u++frs fs us
 |_,_=>[]
theorem frs_snoc:∀(fs:List Fd) (us:List Value) (f:Fd) (u:Value),us.length=fs.length→frs (fs++[f]) (us++[u])=frs fs us++frow f u
 |[],[],f,u,_=>by simp[frs]
 |[],_::_,_,_,h=>by simp at h
 |_::_,[],_,_,h=>by simp at h
 |g::fs,v::us,f,u,h=>by
  rw[List.cons_append,List.cons_append,frs,frs,frs_snoc fs us f u (by simpa using h),List.append_assoc]
theorem frs_at:∀(fs:List Fd) (us:List Value) (i j:Nat),us.length=fs.length→i<fs.length→j<4→(frs fs us)[i*4+j]? =(frow (gf fs i) (gv us i))[j]?
 |[],_,i,_,_,h,_=>by simp at h
 |f::fs,[],_,_,h,_,_=>by simp at h
 |f::fs,u::us,0,j,h,_,hj=>by
  rw[frs,Nat.zero_mul,Nat.zero_add,List.getElem?_append_left (by show j<4;exact hj)]
  rfl
 |f::fs,u::us,i+1,j,h,hi,hj=>by
  rw[frs,List.getElem?_append_right (by show 4≤_;omega)]
  have:(i+1)*4+j-(frow f u).length=i*4+j:=by show _-4=_;omega
  rw[this,frs_at fs us i j (by simpa using h) (by simpa using hi) hj]
  rfl
def Fts (W:World) (base:Nat) (v:Value) (us:List Value) (fs:List Fd):Prop:=
 W.ownsRow base 118 4 v fs.length (frs fs us)∧us.length=fs.length∧(∀i,i<us.length→Own W base (gv us i) (gf fs i).dat)∧
 (∀i,i<us.length→∀k,(gv us i).ownBlock=some k→v.ownBlock≠some k)∧(∀i j,i<j→j<us.length→∀k,(gv us i).ownBlock=some k→(gv us j).ownBlock≠some k)
theorem Fts.keep {W V:World} {b:Nat} {v:Value} {us:List Value} {fs:List Fd} (h:Fts W b v us fs) (hb:Below W.heap.size W V):Fts V b v us fs:=
 ⟨own_keep_row h.1 hb,h.2.1,fun i hi=>(h.2.2.1 i hi).keep hb,h.2.2.2⟩
theorem fts_nil (W:World) (b:Nat):Fts W b nS [] []:=⟨⟨rfl,.inl ⟨rfl,rfl⟩⟩,rfl,fun i hi=>by simp at hi,fun i hi=>by simp at hi,fun i j _ hj=>by simp at hj⟩
theorem fts_empty (W:World):Fts (W.alloc (.cells #[] 118)) W.heap.size (.slice (some ⟨W.heap.size,0,none⟩) 0 0) [] []:=
 ⟨⟨rfl,.inr ⟨W.heap.size,0,#[],rfl,Nat.le_refl _,hp1_0 _ _,Nat.le_refl _,by decide,rfl,rfl⟩⟩,rfl,fun i hi=>by simp at hi,fun i hi=>by simp at hi,fun i j _ hj=>by simp at hj⟩
theorem gf_app_lo {fs:List Fd} {f:Fd} {i:Nat} (h:i<fs.length):gf (fs++[f]) i=gf fs i:=by
 rw[gf,gf,List.getD_eq_getElem?_getD,List.getElem?_append_left h,←List.getD_eq_getElem?_getD]
theorem gf_app_hi {fs:List Fd} {f:Fd}:gf (fs++[f]) fs.length=f:=by
 rw[gf,List.getD_eq_getElem?_getD,List.getElem?_append_right (Nat.le_refl _),Nat.sub_self];rfl
theorem Fts.high {W:World} {b:Nat} {v:Value} {us:List Value} {fs:List Fd} (h:Fts W b v us fs):(∀k,v.ownBlock=some k→k<W.heap.size)∧∀i,i<us.length→∀k,(gv us i).ownBlock=some k→k<W.heap.size:=
 ⟨fun k e=>(own_high_row h.1 k e).2,fun i hi k e=>own_high (h.2.2.1 i hi) k e⟩
theorem Fts.snoc {W W':World} {b L:Nat} {v v':Value} {us:List Value} {fs:List Fd} {u:Value} {f:Fd} (h:Fts W b v us fs) (hL:∀k,v.ownBlock=some k→k<L) (hLi:∀i,i<us.length→∀k,(gv us i).ownBlock=some k→k<L) (hbL:b≤L)
 (hu:Own W L u f.dat) (ho:W'.ownsRow b 118 4 v' (fs.length+1) (frs fs us++frow f u)) (hg:W.grownBy W' v.ownBlock) (hk:Nx W v v'):Fts W' b v' (us++[u]) (fs++[f]):=by
 obtain⟨h1,h2,h3,h4,h5⟩:=h;have hu2:Own W' L u f.dat:=hu.grown2 hg hL
 have hlu:∀k,u.ownBlock=some k→L≤k∧k<W.heap.size:=fun k e=>⟨own_low hu k e,own_high hu k e⟩
 refine⟨by rw[List.length_append,List.length_singleton,frs_snoc fs us f u h2];exact ho,by rw[List.length_append,List.length_append,h2];rfl,fun i hi=>?_,fun i hi k e=>?_,fun i j hij hj k e=>?_⟩
 ·rw[List.length_append,List.length_singleton] at hi
  rcases Nat.lt_or_ge i us.length with q|q
  ·rw[gv_app_lo q,gf_app_lo (by omega)]
   have ho3:=h3 i q
   obtain⟨q1,q2|⟨g,cap,cur,q2,hb2,hr,q3⟩⟩:=ho3
   ·exact⟨q1,.inl q2⟩
   ·refine⟨q1,.inr ⟨g,cap,cur,q2,hb2,(hg.block g (lt_of_row hr) (fun e=>?_)).trans hr,q3⟩⟩
    exact h4 i q g (by rw[q2];rfl) e.symm
  ·obtain rfl:i=us.length:=by omega
   rw[gv_app_hi,h2,gf_app_hi]
   obtain⟨q1,q2|⟨g,cap,cur,q2,hb2,hr⟩⟩:=hu2
   ·exact⟨q1,.inl q2⟩
   ·exact⟨q1,.inr ⟨g,cap,cur,q2,by omega,hr⟩⟩
 ·rw[List.length_append,List.length_singleton] at hi
  intro e2
  rcases hk with hk1|⟨k',hk1,hk2⟩
  ·rw[hk1] at e2
   rcases Nat.lt_or_ge i us.length with q|q
   ·rw[gv_app_lo q] at e
    exact h4 i q k e e2
   ·obtain rfl:i=us.length:=by omega
    rw[gv_app_hi] at e
    have:=hL k e2;have:=(hlu k e).1;omega
  ·rw[hk1] at e2
   cases e2
   rcases Nat.lt_or_ge i us.length with q|q
   ·rw[gv_app_lo q] at e
    have:=own_high (h3 i q) _ e
    omega
   ·obtain rfl:i=us.length:=by omega
    rw[gv_app_hi] at e
    have:=(hlu _ e).2;omega
 ·rw[List.length_append,List.length_singleton] at hj
  rcases Nat.lt_or_ge j us.length with q|q
  ·rw[gv_app_lo (by omega)] at e
   rw[gv_app_lo q]
   exact h5 i j hij q k e
  ·obtain rfl:j=us.length:=by omega
   rw[gv_app_lo hij] at e
   rw[gv_app_hi];intro e2;have:=hLi i hij k e;have:=(hlu k e2).1;omega
theorem Fts.fds {W:World} {b:Nat} {v:Value} {us:List Value} {fs:List Fd} (h:Fts W b v us fs) (hl:fs.length≤2932031007317) (hp:∀i,i<fs.length→Fok (gf fs i)):Fds W v fs:=by
 obtain⟨h1,h2,h3,_⟩:=h;have h1':=h1
 obtain⟨_,⟨rfl,h0⟩|⟨g,cap,cur,rfl,hb,hg,hn,hm,hs,ht⟩⟩:=h1'
 ·refine⟨none,0,by rw[h0],hl,by omega,fun _=>rfl,fun i hi=>?_⟩
  omega
 ·refine⟨some ⟨g,0,none⟩,cap,rfl,hl,hn,(fun e=>by cases e),fun i hi=>⟨g,0,gv us i,rfl,lt_of_row hg,fun j x hx=>?_,(h3 i (by omega)).bysB (by have:=(hp i hi).2.1;omega),hp i hi⟩⟩
  have hj:j<4:=by have:=(List.getElem?_eq_some_iff.1 hx).1;exact this
  have:=h1.cells (g:=g) rfl (i*4+j) x (by rw[frs_at fs us i j h2 hi hj];exact hx)
  rw[addr_add,←Nat.add_assoc] at this;exact this
theorem new_cells4 (wr:World) (cs:Array Value) (t:TypeId):∀j x,cs.toList[j]? =some x→(wr.alloc (.cells cs t)).cell? ((⟨wr.heap.size,0,none⟩:Addr).add j)=some x:=by
 intro j x hx;rw[addr_add,cell_of_row _ _ _ _ _ _ (hp1_0 wr (.cells cs t)),Nat.zero_add]
 simpa using hx
theorem wpList_append_F {w:World} {ops:Array Oper} {rest:List Oper} {o:Oper} {a:Act} {Q:Exit→Act→World→Prop} (hgd:o.guard=none) (s x:Operand)
 (ho:o.op=.call {callee:=.builtin .append,args:=#[s,x],argTypes:=#[116,116]})
 (base:Nat) (v:Value) (us:List Value) (fs:List Fd) (hs:a.eval s=v) (L:Nat) (hI:Fts w base v us fs) (hL:∀k,v.ownBlock=some k→k<L) (hLi:∀i,i<us.length→∀k,(gv us i).ownBlock=some k→k<L) (hbL:base≤L)
 (u:Value) (f:Fd) (hu:Own w L u f.dat) (g:Nat) (hx:a.eval x=.slice (some ⟨g,0,none⟩) 1 1) (hnews:∀j x,(frow f u)[j]? =some x→w.cell? ((⟨g,0,none⟩:Addr).add j)=some x)
 (hlen:fs.length<2932031007317) (hbase:base≤w.heap.size)
 (h:∀v' w',Fts w' base v' (us++[u]) (fs++[f])→w.grownBy w' v.ownBlock→Nx w v v'→wpList Tryz.prog ops Q rest (a.put o.dst v') w'):wpList Tryz.prog ops Q (o::rest) a w:=by
 obtain⟨i0,hi,hz0,hz1,hz2⟩:=info48
 refine wpList_plain hgd fun _ hK=>wp_append_nx s x 116 ho base 118 i0 (.agg #[.int .i64 0,.int .i64 0,.int .u64 0,nS]) 4 48 Tryz.underlying116 hi hz0 hz1 hz2 rfl (by decide) v fs.length (frs fs us) hs hI.1 ⟨g,0,none⟩ 1 1 (frow f u) hx rfl hnews (fun x hx=>?_) (by unfold maxLen;omega) (by omega) hbase (fun v' w' h1 h2 h3=>hK _ _ (h v' w' (hI.snoc hL hLi hbL hu h1 h2 h3) h2 h3))
 obtain⟨ao,cap,rfl⟩:=slen_own hu
 simp[frow] at hx
 rcases hx with rfl|rfl|rfl|rfl<;>rfl
theorem infoFi:(Tryz.prog.info? 118).map (·.size)=some 4:=by kernel_rfl
theorem a_plain2 (n:Nat) (da:Option Addr) (dl dc:Nat) (pa:Option Addr) (pl pc:Nat) (no wt:Int) (g0 g1:Nat) (w:World) (h0:Bx w g0 #[.int .i64 no]) (h1:Bx w g1 #[.int .i64 wt]):
 Calls Tryz.prog 115 #[.agg (vrw n (.slice da dl dc) (.slice pa pl pc)),ptr g0,ptr g1] w fun e w'=>e=.returned (.agg #[.int .i64 no,.int .i64 wt,.int .u64 (n:Int),.slice da dl dc])∧Below w.heap.size w w':=by
 obtain⟨T0,h0⟩:=h0;obtain⟨T1,h1⟩:=h1;have l0:=lt_of_row h0;have l1:=lt_of_row h1
 have n0:¬w.heap.size=g0:=by omega
 have n0':¬g0=w.heap.size:=by omega
 have n1:¬w.heap.size=g1:=by omega
 have n1':¬g1=w.heap.size:=by omega
 have m0:¬w.heap.size+1=g0:=by omega
 have m0':¬g0=w.heap.size+1:=by omega
 have m1:¬w.heap.size+1=g1:=by omega
 have m1':¬g1=w.heap.size+1:=by omega
 have c0:w.cell? ⟨g0,0,none⟩=some (.int .i64 no):=by rw[cell_of_row _ _ _ _ _ _ h0];rfl
 have c1:w.cell? ⟨g1,0,none⟩=some (.int .i64 wt):=by rw[cell_of_row _ _ _ _ _ _ h1];rfl
 have hb:Below w.heap.size w ((w.alloc (.cells #[.int .u64 (n:Int),.slice da dl dc,.slice pa pl pc] 27)).alloc (.cells #[.int .i64 0,.int .i64 0,.int .u64 0,nS] 118)):=((Below.refl _ _).alloc (Nat.le_refl _) _).alloc (by simp) _
 have r1:=hp2_1 w (.cells #[.int .u64 (n:Int),.slice da dl dc,.slice pa pl pc] 27) (.cells #[.int .i64 0,.int .i64 0,.int .u64 0,nS] 118)
 have hb2:=below_setRow (g:=w.heap.size+1) hb (by omega) #[.int .i64 no,.int .i64 wt,.int .u64 (n:Int),.slice da dl dc]
 have r2:=setRow_heap _ (w.heap.size+1) _ (#[.int .i64 no,.int .i64 wt,.int .u64 (n:Int),.slice da dl dc]) _ _ r1
 have hone:(#[Value.int .i64 no,.int .i64 wt,.int .u64 (n:Int),.slice da dl dc]:Array Value).all (·.oneCell')=true:=by simp[Value.oneCell']
 unfold vrw ptr;have A1:=hide hb2;have A2:=hide r2;clear hb hb2 r2 h0 h1
 go_enter Tryz.func115,Tryz.ntmps115
 go_wp2_with (first|(refine wpList_store_row rfl 118 _ _ rfl (w.heap.size+1) #[.int .i64 no,.int .i64 wt,.int .u64 (n:Int),.slice da dl dc] rfl rfl 118 _ r1 infoFi rfl hone ?_)|fail)
 exact bodyPost_ret (v:=.agg #[.int .i64 no,.int .i64 wt,.int .u64 (n:Int),.slice da dl dc]) (results_cell_row Tryz.results115 _ _ (w.heap.size+1) _ _ _ _ rfl A2.out Tryz.underlying118 rfl infoFi) rfl ⟨rfl,A1.out⟩
theorem ent_plain2 (args:Array Value) (W:World):(callFunc 115 args).run Tryz.prog W=.ok (.enter 115 args) W:=by kernel_rfl
theorem wp_val_op {P:Program} {o:Oper} {a:Act} {w w':World} {K:Act→World→Prop} {Q:Exit→Act→World→Prop} (v:Value) (hx:(execOp a.eval o).run P w=.ok (.value v) w') (h:K (a.put o.dst v) w'):o.wp P a w K Q:=by
 unfold Oper.wp;rw[hx,Oper.upon_value];exact h
theorem neq_nils (W:World):(binOp .neq 37 .nilIface .nilIface).run Tryz.prog W=.ok (.bool false) W:=by kernel_rfl
theorem neq_fault (v:Value) (W:World):(binOp .neq 37 (.iface 70 v) .nilIface).run Tryz.prog W=.ok (.bool true) W:=by kernel_rfl
def Enc (base:Nat) (f:Option Flt3) (bs:List B) (e:Ending) (w':World):Prop:=
 match f with
 |none=>∃u,e=.returned (.tuple #[u,.nilIface])∧Own w' base u bs
 |some x=>∃g,e=.returned (.tuple #[nS,.iface 70 (.pointer (some ⟨g,0,none⟩))])∧base≤g∧w'.heap[g]? =some (.cells (frw x) 41 (0,0))
end Go.Proofs.YtmmlkfkpblokiaaGreatDoor
