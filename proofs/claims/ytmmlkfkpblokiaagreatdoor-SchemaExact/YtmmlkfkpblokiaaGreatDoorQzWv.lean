import Derived.Test.YtmmlkfkpblokiaaGreatDoorQzUw
set_option maxRecDepth 100000
set_option maxHeartbeats 16000000
namespace Go.Proofs.YtmmlkfkpblokiaaGreatDoor
open Go Go.RowKit Go.Sort
attribute [local go_sem] setCell_drewN alloc_drewN
def dsm:List Fd→Nat
 |[]=>0
 |f::l=>f.dat.length+dsm l
theorem dsm_app (a b:List Fd):dsm (a++b)=dsm a+dsm b:=by
 induction a with
 |nil=>simp[dsm]
 |cons p l ih=>rw[List.cons_append,dsm,dsm,ih];omega
theorem dsm_snoc (fs:List Fd) (k:Nat) (h:k<fs.length):dsm (fs.take (k+1))=dsm (fs.take k)+(gf fs k).dat.length:=by
 rw[ftake_snoc fs k h,dsm_app,dsm,dsm,Nat.add_zero]
theorem fby_dat7 {f:Fd} (hf:fits f) (_hk:known f.ty):f.dat.length≤(fby f).length:=by
 have h2:=(fits_iff f).1 hf;rw[fby,List.length_append]
 by_cases t2:f.ty=2
 ·have:fvl f=itm f.dat:=by unfold fvl;rw[if_neg (by omega),if_neg (by omega),if_neg (by omega)]
  rw[this,itm_len]
  omega
 ·rw[if_neg t2] at h2
  rw[h2.1]
  simp
theorem fby_small {f:Fd} (_hf:fits f) (hf2:Fok f) (hk:known f.ty) (h1:f.no≤536870911):(fby f).length≤f.dat.length+30:=by
 have h3:=en_ten (Fok.hd h1 (known_lt hk).2);have h4:=en_ten hf2.1;have h5:=itm_len f.dat
 have h6:=en_ten (n:=f.dat.length) (by have:=hf2.2.1;omega)
 rw[fby,List.length_append];unfold fvl
 split
 ·omega
 ·split
  ·rw[fx_len];omega
  ·split
   ·rw[fx_len];omega
   ·omega
theorem dsm_le {fs:List Fd}:∀k,k≤fs.length→(∀i,i<k→fck (gf fs i) (lst fs i)=0)→dsm (fs.take k)≤(ebs (fs.take k)).length
 |0,_,_=>by simp[dsm]
 |k+1,hk,h=>by
  have h1:=dsm_le k (by omega) (fun i hi=>h i (by omega))
  have h2:=fck_ok (h k (by omega))
  have h3:=fby_dat7 h2.2.2.2 h2.2.2.1
  rw[dsm_snoc fs k (by omega),ebs_snoc fs k (by omega),List.length_append]
  omega
theorem ebs_small {fs:List Fd} (hF:∀i,i<fs.length→Fok (gf fs i)):∀k,k≤fs.length→(∀i,i<k→fck (gf fs i) (lst fs i)=0)→(ebs (fs.take k)).length≤dsm (fs.take k)+30*k
 |0,_,_=>by simp[ebs]
 |k+1,hk,h=>by
  have h1:=ebs_small hF k (by omega) (fun i hi=>h i (by omega))
  have h2:=fck_ok (h k (by omega))
  have h3:=fby_small h2.2.2.2 (hF k (by omega)) h2.2.2.1 h2.2.1
  rw[dsm_snoc fs k (by omega),ebs_snoc fs k (by omega),List.length_append]
  omega
theorem dsm_bd {fs:List Fd} (hF:∀i,i<fs.length→Fok (gf fs i)):∀k,k≤fs.length→dsm (fs.take k)≤k*140737488351232
 |0,_=>by simp[dsm]
 |k+1,hk=>by
  have h1:=dsm_bd hF k (by omega)
  have h2:=(hF k (by omega)).2.1
  rw[dsm_snoc fs k (by omega)]
  omega
theorem r_encode (fs:List Fd) (w:World) (v:Value) (hB:Fds w v fs):Calls Tryz.prog 56 #[v] w fun e w'=>∃u,e=.returned (.tuple #[u,.int .i64 (eer fs)])∧Own w' w.heap.size u (eout fs)∧Below w.heap.size w w':=by
 have hlen:=hB.len;have hoks:=hide hB.oks;obtain⟨ao,cap,rfl⟩:=hB.form
 by_cases h1:64<fs.length
 ·have d1:decide ((fs.length:Int)>64)=true:=by simp;omega
  have e1:eer fs=2:=if_pos h1
  have e2:eout fs=[]:=if_neg (by rw[e1];decide)
  rw[e1,e2]
  go_enter Tryz.func56,Tryz.ntmps56
  go_wp2_with (fail)
  go_ret2;exact⟨_,rfl,own_none _ _,Below.refl _ _⟩
 ·have d1:decide ((fs.length:Int)>64)=false:=by simp;omega
  have hee:Hid (eer fs=if ech fs 0≠0 then ech fs 0 else if 4194304<(ebs fs).length then 2 else 0):=hide (if_neg h1)
  go_enter Tryz.func56,Tryz.ntmps56
  go_wp2_with (fail)
  go_loopw [4,5] (fun l i wr=>∃k:Nat,k≤fs.length∧i=.int .i64 k∧l=.int .i64 (lst fs k)∧(∀i,i<k→fck (gf fs i) (lst fs i)=0)∧Below w.heap.size w wr) (fun _ i _=>fs.length-(intOf i).toNat)
  case atStart=>exact⟨0,by omega,rfl,rfl,fun i hi=>by omega,Below.refl _ _⟩
  case round=>
   obtain⟨k,hk,rfl,rfl,hck,hw⟩:=hrel;have hln:=lst_nn k hck;have hech:=ech_at k hk hck
   by_cases hlt:k<fs.length
   ·have hd:decide ((k:Int)<(fs.length:Int))=true:=by simp;omega
    obtain⟨b,off,uo,uc,e,hb1,hb2,hb3,hb4⟩:=hB.at hlt
    subst e;replace hb2:=range_keep2 (w:=w) hb2 hw hb1
    have hk1:0≤(k:Int)∧(k:Int)<(fs.length:Int):=by omega
    rw[fdrop_at fs k hlt,ech] at hech;have hcko:=hide hck;clear hck;have cF:=r_fits (gf fs k) uo uc;unfold fagg at cF;have cK:=r_known (gf fs k).ty;clear hb3;unfold frow at hb2
    generalize hLa:lst fs k=La at *
    have herr:Hid (∀E:Int,E≠0→fck (gf fs k) La=E→eer fs=E∧eout fs=[]):=hide (fun E h0 h=>by
     have hn:ech fs 0=E:=by rw[hech,h,if_pos h0]
     have e1:eer fs=E:=by rw[hee.out,if_pos (by rw[hn];exact h0),hn]
     exact⟨e1,if_neg (by rw[e1];exact h0)⟩)
    have hfkd:fck (gf fs k) La=if hck (gf fs k) La≠0 then hck (gf fs k) La else if fits (gf fs k) then 0 else 1:=rfl
    have hhkd:hck (gf fs k) La=if(gf fs k).no≤La∨536870911<(gf fs k).no then 71 else if known (gf fs k).ty then 0 else 72:=rfl
    clear hech
    by_cases q1:(gf fs k).no≤La∨536870911<(gf fs k).no
    ·rw[if_pos q1] at hhkd
     have hE:=herr.out 71 (by decide) (by rw[hfkd,hhkd];rfl)
     replace hE:=hide hE;clear hfkd hhkd herr cF cK hcko hee
     by_cases q2:(gf fs k).no<1
     ·have g1:decide ((gf fs k).no<1)=true:=decide_eq_true q2
      have r0:=hp1_0 wr (.cells #[.int .i64 0,.int .i64 0,.int .u64 0,nS] 118)
      have hba:Below wr.heap.size wr (wr.alloc (.cells #[.int .i64 0,.int .i64 0,.int .u64 0,nS] 118)):=(Below.refl _ _).alloc (Nat.le_refl _) _;have r1:=setRow_heap _ wr.heap.size _ #[.int .i64 (gf fs k).no,.int .i64 (gf fs k).ty,.int .u64 ((gf fs k).num:Int),.slice uo (gf fs k).dat.length uc] _ _ r0;replace hba:=below_setRow hba (Nat.le_refl _) #[.int .i64 (gf fs k).no,.int .i64 (gf fs k).ty,.int .u64 ((gf fs k).num:Int),.slice uo (gf fs k).dat.length uc]
      have hone:(#[.int .i64 (gf fs k).no,.int .i64 (gf fs k).ty,.int .u64 ((gf fs k).num:Int),.slice uo (gf fs k).dat.length uc]:Array Value).all (·.oneCell')=true:=by simp[Value.oneCell']
      have c0:((wr.alloc (.cells #[.int .i64 0,.int .i64 0,.int .u64 0,nS] 118)).setRow wr.heap.size #[.int .i64 (gf fs k).no,.int .i64 (gf fs k).ty,.int .u64 ((gf fs k).num:Int),.slice uo (gf fs k).dat.length uc]).cell? ⟨wr.heap.size,0,none⟩=some (.int .i64 (gf fs k).no):=cell_of_row _ _ _ _ _ _ r1;have c1:((wr.alloc (.cells #[.int .i64 0,.int .i64 0,.int .u64 0,nS] 118)).setRow wr.heap.size #[.int .i64 (gf fs k).no,.int .i64 (gf fs k).ty,.int .u64 ((gf fs k).num:Int),.slice uo (gf fs k).dat.length uc]).cell? ⟨wr.heap.size,1,none⟩=some (.int .i64 (gf fs k).ty):=cell_of_row _ _ _ _ _ _ r1
      go_wp2_with (first|(refine wpList_load_fd rfl _ rfl b (off+k*4) rfl _ _ _ _ hb2 ?_)|(refine wpList_alloc rfl 118 rfl #[.int .i64 0,.int .i64 0,.int .u64 0,nS] zFd ?_)|(refine wpList_store_row rfl 118 _ _ rfl (wr.heap.size) #[.int .i64 (gf fs k).no,.int .i64 (gf fs k).ty,.int .u64 ((gf fs k).num:Int),.slice uo (gf fs k).dat.length uc] rfl rfl 118 _ r0 infoF rfl hone ?_)|(refine wpList_load_want rfl 118 _ rfl (wr.heap.size) rfl 118 #[.int .i64 (gf fs k).no,.int .i64 (gf fs k).ty,.int .u64 ((gf fs k).num:Int),.slice uo (gf fs k).dat.length uc] (0,0) _ r1 Tryz.underlying118 rfl infoF ?_)|fail)
      replace hw:=Below.after hw hba;go_ret2;rw[hE.out.1,hE.out.2];exact⟨_,rfl,own_none _ _,hw⟩
     ·have g1:decide ((gf fs k).no<1)=false:=decide_eq_false q2
      by_cases q3:536870911<(gf fs k).no
      ·have g2:decide ((gf fs k).no>536870911)=true:=decide_eq_true q3
       have r0:=hp1_0 wr (.cells #[.int .i64 0,.int .i64 0,.int .u64 0,nS] 118)
       have hba:Below wr.heap.size wr (wr.alloc (.cells #[.int .i64 0,.int .i64 0,.int .u64 0,nS] 118)):=(Below.refl _ _).alloc (Nat.le_refl _) _;have r1:=setRow_heap _ wr.heap.size _ #[.int .i64 (gf fs k).no,.int .i64 (gf fs k).ty,.int .u64 ((gf fs k).num:Int),.slice uo (gf fs k).dat.length uc] _ _ r0;replace hba:=below_setRow hba (Nat.le_refl _) #[.int .i64 (gf fs k).no,.int .i64 (gf fs k).ty,.int .u64 ((gf fs k).num:Int),.slice uo (gf fs k).dat.length uc]
       have hone:(#[.int .i64 (gf fs k).no,.int .i64 (gf fs k).ty,.int .u64 ((gf fs k).num:Int),.slice uo (gf fs k).dat.length uc]:Array Value).all (·.oneCell')=true:=by simp[Value.oneCell']
       have c0:((wr.alloc (.cells #[.int .i64 0,.int .i64 0,.int .u64 0,nS] 118)).setRow wr.heap.size #[.int .i64 (gf fs k).no,.int .i64 (gf fs k).ty,.int .u64 ((gf fs k).num:Int),.slice uo (gf fs k).dat.length uc]).cell? ⟨wr.heap.size,0,none⟩=some (.int .i64 (gf fs k).no):=cell_of_row _ _ _ _ _ _ r1;have c1:((wr.alloc (.cells #[.int .i64 0,.int .i64 0,.int .u64 0,nS] 118)).setRow wr.heap.size #[.int .i64 (gf fs k).no,.int .i64 (gf fs k).ty,.int .u64 ((gf fs k).num:Int),.slice uo (gf fs k).dat.length uc]).cell? ⟨wr.heap.size,1,none⟩=some (.int .i64 (gf fs k).ty):=cell_of_row _ _ _ _ _ _ r1
       go_wp2_with (first|(refine wpList_load_fd rfl _ rfl b (off+k*4) rfl _ _ _ _ hb2 ?_)|(refine wpList_alloc rfl 118 rfl #[.int .i64 0,.int .i64 0,.int .u64 0,nS] zFd ?_)|(refine wpList_store_row rfl 118 _ _ rfl (wr.heap.size) #[.int .i64 (gf fs k).no,.int .i64 (gf fs k).ty,.int .u64 ((gf fs k).num:Int),.slice uo (gf fs k).dat.length uc] rfl rfl 118 _ r0 infoF rfl hone ?_)|(refine wpList_load_want rfl 118 _ rfl (wr.heap.size) rfl 118 #[.int .i64 (gf fs k).no,.int .i64 (gf fs k).ty,.int .u64 ((gf fs k).num:Int),.slice uo (gf fs k).dat.length uc] (0,0) _ r1 Tryz.underlying118 rfl infoF ?_)|fail)
       replace hw:=Below.after hw hba;go_ret2;rw[hE.out.1,hE.out.2];exact⟨_,rfl,own_none _ _,hw⟩
      ·have g2:decide ((gf fs k).no>536870911)=false:=decide_eq_false q3
       have g3:decide ((gf fs k).no≤La)=true:=decide_eq_true (by omega)
       have r0:=hp1_0 wr (.cells #[.int .i64 0,.int .i64 0,.int .u64 0,nS] 118);have hba:Below wr.heap.size wr (wr.alloc (.cells #[.int .i64 0,.int .i64 0,.int .u64 0,nS] 118)):=(Below.refl _ _).alloc (Nat.le_refl _) _;have r1:=setRow_heap _ wr.heap.size _ #[.int .i64 (gf fs k).no,.int .i64 (gf fs k).ty,.int .u64 ((gf fs k).num:Int),.slice uo (gf fs k).dat.length uc] _ _ r0;replace hba:=below_setRow hba (Nat.le_refl _) #[.int .i64 (gf fs k).no,.int .i64 (gf fs k).ty,.int .u64 ((gf fs k).num:Int),.slice uo (gf fs k).dat.length uc]
       have hone:(#[.int .i64 (gf fs k).no,.int .i64 (gf fs k).ty,.int .u64 ((gf fs k).num:Int),.slice uo (gf fs k).dat.length uc]:Array Value).all (·.oneCell')=true:=by simp[Value.oneCell']
       have c0:((wr.alloc (.cells #[.int .i64 0,.int .i64 0,.int .u64 0,nS] 118)).setRow wr.heap.size #[.int .i64 (gf fs k).no,.int .i64 (gf fs k).ty,.int .u64 ((gf fs k).num:Int),.slice uo (gf fs k).dat.length uc]).cell? ⟨wr.heap.size,0,none⟩=some (.int .i64 (gf fs k).no):=cell_of_row _ _ _ _ _ _ r1;have c1:((wr.alloc (.cells #[.int .i64 0,.int .i64 0,.int .u64 0,nS] 118)).setRow wr.heap.size #[.int .i64 (gf fs k).no,.int .i64 (gf fs k).ty,.int .u64 ((gf fs k).num:Int),.slice uo (gf fs k).dat.length uc]).cell? ⟨wr.heap.size,1,none⟩=some (.int .i64 (gf fs k).ty):=cell_of_row _ _ _ _ _ _ r1
       go_wp2_with (first|(refine wpList_load_fd rfl _ rfl b (off+k*4) rfl _ _ _ _ hb2 ?_)|(refine wpList_alloc rfl 118 rfl #[.int .i64 0,.int .i64 0,.int .u64 0,nS] zFd ?_)|(refine wpList_store_row rfl 118 _ _ rfl (wr.heap.size) #[.int .i64 (gf fs k).no,.int .i64 (gf fs k).ty,.int .u64 ((gf fs k).num:Int),.slice uo (gf fs k).dat.length uc] rfl rfl 118 _ r0 infoF rfl hone ?_)|(refine wpList_load_want rfl 118 _ rfl (wr.heap.size) rfl 118 #[.int .i64 (gf fs k).no,.int .i64 (gf fs k).ty,.int .u64 ((gf fs k).num:Int),.slice uo (gf fs k).dat.length uc] (0,0) _ r1 Tryz.underlying118 rfl infoF ?_)|fail)
       replace hw:=Below.after hw hba;go_ret2;rw[hE.out.1,hE.out.2];exact⟨_,rfl,own_none _ _,hw⟩
    ·rw[if_neg q1] at hhkd
     have g1:decide ((gf fs k).no<1)=false:=decide_eq_false (by omega)
     have g2:decide ((gf fs k).no>536870911)=false:=decide_eq_false (by omega)
     have g3:decide ((gf fs k).no≤La)=false:=decide_eq_false (by omega)
     have r0:=hp1_0 wr (.cells #[.int .i64 0,.int .i64 0,.int .u64 0,nS] 118);have hba:Below wr.heap.size wr (wr.alloc (.cells #[.int .i64 0,.int .i64 0,.int .u64 0,nS] 118)):=(Below.refl _ _).alloc (Nat.le_refl _) _;have r1:=setRow_heap _ wr.heap.size _ #[.int .i64 (gf fs k).no,.int .i64 (gf fs k).ty,.int .u64 ((gf fs k).num:Int),.slice uo (gf fs k).dat.length uc] _ _ r0;replace hba:=below_setRow hba (Nat.le_refl _) #[.int .i64 (gf fs k).no,.int .i64 (gf fs k).ty,.int .u64 ((gf fs k).num:Int),.slice uo (gf fs k).dat.length uc]
     have hone:(#[.int .i64 (gf fs k).no,.int .i64 (gf fs k).ty,.int .u64 ((gf fs k).num:Int),.slice uo (gf fs k).dat.length uc]:Array Value).all (·.oneCell')=true:=by simp[Value.oneCell']
     have c0:((wr.alloc (.cells #[.int .i64 0,.int .i64 0,.int .u64 0,nS] 118)).setRow wr.heap.size #[.int .i64 (gf fs k).no,.int .i64 (gf fs k).ty,.int .u64 ((gf fs k).num:Int),.slice uo (gf fs k).dat.length uc]).cell? ⟨wr.heap.size,0,none⟩=some (.int .i64 (gf fs k).no):=cell_of_row _ _ _ _ _ _ r1;have c1:((wr.alloc (.cells #[.int .i64 0,.int .i64 0,.int .u64 0,nS] 118)).setRow wr.heap.size #[.int .i64 (gf fs k).no,.int .i64 (gf fs k).ty,.int .u64 ((gf fs k).num:Int),.slice uo (gf fs k).dat.length uc]).cell? ⟨wr.heap.size,1,none⟩=some (.int .i64 (gf fs k).ty):=cell_of_row _ _ _ _ _ _ r1
     go_wp2_with (first|(refine wpList_load_fd rfl _ rfl b (off+k*4) rfl _ _ _ _ hb2 ?_)|(refine wpList_alloc rfl 118 rfl #[.int .i64 0,.int .i64 0,.int .u64 0,nS] zFd ?_)|(refine wpList_store_row rfl 118 _ _ rfl (wr.heap.size) #[.int .i64 (gf fs k).no,.int .i64 (gf fs k).ty,.int .u64 ((gf fs k).num:Int),.slice uo (gf fs k).dat.length uc] rfl rfl 118 _ r0 infoF rfl hone ?_)|(refine wpList_load_want rfl 118 _ rfl (wr.heap.size) rfl 118 #[.int .i64 (gf fs k).no,.int .i64 (gf fs k).ty,.int .u64 ((gf fs k).num:Int),.slice uo (gf fs k).dat.length uc] (0,0) _ r1 Tryz.underlying118 rfl infoF ?_)|fail)
     have l0:=lt_of_row r1
     generalize (wr.alloc (.cells #[.int .i64 0,.int .i64 0,.int .u64 0,nS] 118)).setRow wr.heap.size #[.int .i64 (gf fs k).no,.int .i64 (gf fs k).ty,.int .u64 ((gf fs k).num:Int),.slice uo (gf fs k).dat.length uc]=w0 at *
     clear r0 hone;replace hw:=Below.after hw hba;have cK0:=cK w0;clear cK;refine cK0.mono ?_;rintro e_ w1 ⟨rfl,hb⟩;replace hw:=Below.after hw hb;replace r1:=keep hb r1;replace c0:=(hb.cell (p:=⟨wr.heap.size,0,none⟩) l0).trans c0;replace l0:=Nat.lt_of_lt_of_le l0 hb.size;clear hb cK0 hba
     by_cases q4:known (gf fs k).ty
     ·rw[if_pos q4] at hhkd
      rw[decide_eq_true q4]
      have cF0:=cF w1;clear cF
      go_wp2_with (first|(refine wpList_load_want rfl 118 _ rfl (wr.heap.size) rfl 118 #[.int .i64 (gf fs k).no,.int .i64 (gf fs k).ty,.int .u64 ((gf fs k).num:Int),.slice uo (gf fs k).dat.length uc] (0,0) _ r1 Tryz.underlying118 rfl infoF ?_)|fail)
      refine cF0.mono ?_;rintro e_ w2 ⟨rfl,hb⟩;replace hw:=Below.after hw hb;replace c0:=(hb.cell (p:=⟨wr.heap.size,0,none⟩) l0).trans c0;clear hb cF0 r1
      by_cases q5:fits (gf fs k)
      ·rw[decide_eq_true q5]
       have hck2:Hid (∀i,i<k+1→fck (gf fs i) (lst fs i)=0):=hide (fun i hi=>by
        rcases Nat.lt_or_ge i k with q|q
        ·exact hcko.out i q
        ·obtain rfl:i=k:=by omega
         rw[hLa,hfkd,hhkd,if_pos q5];rfl)
       clear hfkd hhkd herr q1 q4 q5
       go_wp2_with (fail)
       refine⟨⟨k+1,by omega,by go_num,by rw[lst_succ],hck2.out,hw⟩,?_⟩
       simp[intOf];omega
      ·rw[decide_eq_false q5]
       have hE:=herr.out 1 (by decide) (by rw[hfkd,hhkd,if_neg q5];rfl)
       replace hE:=hide hE;clear hfkd hhkd herr q1 q4 q5 hcko hee
       go_wp2_with (fail)
       go_ret2;rw[hE.out.1,hE.out.2];exact⟨_,rfl,own_none _ _,hw⟩
     ·rw[if_neg q4] at hhkd
      rw[decide_eq_false q4]
      have hE:=herr.out 72 (by decide) (by rw[hfkd,hhkd];rfl)
      replace hE:=hide hE;clear hfkd hhkd herr q1 q4 hcko hee cF
      go_wp2_with (fail)
      go_ret2;rw[hE.out.1,hE.out.2];exact⟨_,rfl,own_none _ _,hw⟩
   ·obtain rfl:k=fs.length:=by omega
    have hd:decide ((fs.length:Int)<(fs.length:Int))=false:=by simp
    rw[List.drop_length,ech] at hech
    have hee2:eer fs=if 4194304<(ebs fs).length then 2 else 0:=by rw[hee.out,if_neg (by rw[hech];simp)]
    have hdle:=dsm_le fs.length (Nat.le_refl _) hck;have hsml:=ebs_small hoks.out fs.length (Nat.le_refl _) hck;have hdb:=hide (dsm_bd hoks.out);rw[List.take_length] at hdle hsml;replace hck:=hide hck;clear hee hech
    go_wp2_with (fail)
    go_loopw [7,8] (fun s i wr=>∃k:Nat,k≤fs.length∧i=.int .i64 k∧s=.int .i64 (dsm (fs.take k):Int)∧Below w.heap.size w wr) (fun _ i _=>fs.length-(intOf i).toNat)
    case atStart=>exact⟨0,by omega,rfl,rfl,hw⟩
    case round=>
     clear hw;obtain⟨k,hk,rfl,rfl,hw⟩:=hrel
     by_cases hlt:k<fs.length
     ·have hd2:decide ((k:Int)<(fs.length:Int))=true:=by simp;omega
      obtain⟨b,off,uo,uc,e,hb1,hb2,hb3,hb4⟩:=hB.at hlt
      subst e;replace hb2:=range_keep2 (w:=w) hb2 hw hb1;have hc3:wr.cell? ⟨b,off+k*4+3,none⟩=some (.slice uo (gf fs k).dat.length uc):=hb2 3 _ rfl
      have hk1:0≤(k:Int)∧(k:Int)<(fs.length:Int):=by omega
      have hsn:Hid (dsm (fs.take (k+1))=dsm (fs.take k)+(gf fs k).dat.length):=hide (dsm_snoc fs k hlt)
      have hbk:=hdb.out (k+1) (by omega)
      rw[hsn.out] at hbk;clear hb2 hb3
      generalize dsm (fs.take k)=S at *
      generalize (gf fs k).dat.length=P at *
      go_wp2_with (fail)
      refine⟨⟨k+1,by omega,by go_num,by rw[hsn.out,Int.natCast_add],hw⟩,?_⟩
      simp[intOf];omega
     ·obtain rfl:k=fs.length:=by omega
      have hd2:decide ((fs.length:Int)<(fs.length:Int))=false:=by simp
      rw[List.take_length];have hbk:=hdb.out fs.length (Nat.le_refl _);rw[List.take_length] at hbk
      by_cases h2:4194304<dsm fs
      ·rw[if_pos (by omega)] at hee2
       have e2:eout fs=[]:=if_neg (by rw[hee2];decide)
       have hfin:Hid (eer fs=2∧eout fs=[]):=hide ⟨hee2,e2⟩;clear hee2 e2 hck hdle hsml
       generalize dsm fs=S at *
       have d2:decide ((S:Int)>4194304)=true:=by simp;omega
       go_wp2_with (fail)
       go_ret2;rw[hfin.out.1,hfin.out.2];exact⟨_,rfl,own_none _ _,hw⟩
      ·have hbe:(ebs fs).length≤4194304+30*64:=by omega
       have hmono:=ebs_mono fs
       have d2:decide ((dsm fs:Int)>4194304)=false:=by simp;omega
       have hO0:=own_nil wr;have hw0:=hw.alloc hw.size (.cells #[] 5);clear hdle hsml hdb hbk
       generalize dsm fs=S at *
       replace hee2:=hide hee2;have hws:=hw.size;replace hO0:=own_down hO0 hws
       go_wp2_with (fail)
       generalize wr.alloc (.cells #[] 5)=w2 at *
       go_loopw [9,10] (fun s i wr=>∃(k:Nat) (so:Option Addr) (sc:Nat),k≤fs.length∧i=.int .i64 k∧s=.slice so (ebs (fs.take k)).length sc∧Own wr w.heap.size (.slice so (ebs (fs.take k)).length sc) (ebs (fs.take k))∧Below w.heap.size w wr) (fun _ i _=>fs.length-(intOf i).toNat)
       case atStart=>exact⟨0,_,_,by omega,rfl,rfl,hO0,hw0⟩
       case round=>
        clear hO0 hw0 hw hws;obtain⟨k,so,sc,hk,rfl,rfl,hO,hw⟩:=hrel;have hws:=hw.size
        by_cases hlt:k<fs.length
        ·have hd3:decide ((k:Int)<(fs.length:Int))=true:=by simp;omega
         obtain⟨b,off,uo,uc,e,hb1,hb2,hb3,hb4⟩:=hB.at hlt
         subst e;replace hb2:=range_keep2 (w:=w) hb2 hw hb1
         have hk1:0≤(k:Int)∧(k:Int)<(fs.length:Int):=by omega
         have hsn:Hid (ebs (fs.take (k+1))=ebs (fs.take k)++fby (gf fs k)):=hide (ebs_snoc fs k hlt);have hmk:=hmono (k+1);rw[hsn.out,List.length_append] at hmk;have hfo:=fck_ok (hck.out k hlt)
         have hln:=lst_nn k (fun i hi=>hck.out i (by omega))
         have c1:=r_one (gf fs k) wr uo uc (hb3.keep hw) hb4 (by omega) hfo.2.1 hfo.2.2.1
         unfold fagg at c1;unfold frow at hb2
         generalize hJ:ebs (fs.take k)=J at *
         generalize hG:fby (gf fs k)=G at *
         clear hb3
         go_wp2_with (first|(refine wpList_load_fd rfl _ rfl b (off+k*4) rfl _ _ _ _ hb2 ?_)|fail)
         refine c1.mono ?_;rintro e_ w3 ⟨x,rfl,hx,hb⟩;replace hO:=hO.keep hb;replace hw:=Below.after hw hb
         have hxB:=hx.bysB (by omega)
         clear c1 hb
         go_wp2_with (at_builtin;suffices h9:True∧_ from h9.2)
         refine⟨trivial,?_⟩
         refine wpList_append_B rfl (.tmp 70) (.tmp 75) rfl w.heap.size _ J rfl hO _ G rfl hxB (by omega) hw.size ?_
         intro v4 w4 hO4 hgr;replace hw:=hw.grown hgr hw.size (own_low hO);obtain⟨ao4,ac4,rfl⟩:=slen_own hO4;clear hgr hO
         go_wp2_with (fail)
         refine⟨⟨k+1,ao4,ac4,by omega,by go_num,by rw[hsn.out,List.length_append],by rw[hsn.out];exact hO4,hw⟩,?_⟩
         simp[intOf];omega
        ·obtain rfl:k=fs.length:=by omega
         have hd3:decide ((fs.length:Int)<(fs.length:Int))=false:=by simp
         rw[List.take_length] at hO;rw[List.take_length];have hee3:=hee2.out
         by_cases h3:4194304<(ebs fs).length
         ·rw[if_pos h3] at hee3
          have e2:eout fs=[]:=if_neg (by rw[hee3];decide)
          have hfin:Hid (eer fs=2∧eout fs=[]):=hide ⟨hee3,e2⟩;clear hee3 e2
          have d4:decide (((ebs fs).length:Int)>4194304)=true:=by simp;omega
          generalize hJ:ebs fs=J at *
          go_wp2_with (fail)
          go_ret2;rw[hfin.out.1,hfin.out.2];exact⟨_,rfl,own_none _ _,hw⟩
         ·rw[if_neg h3] at hee3
          have e2:eout fs=ebs fs:=if_pos hee3
          have hfin:Hid (eer fs=0∧eout fs=ebs fs):=hide ⟨hee3,e2⟩;clear hee3 e2
          have d4:decide (((ebs fs).length:Int)>4194304)=false:=by simp;omega
          generalize hJ:ebs fs=J at *
          go_wp2_with (fail)
          go_ret2;rw[hfin.out.1,hfin.out.2];exact⟨_,rfl,hO,hw⟩
theorem r_sizeX (n:Nat) (hn:n<18446744073709551616) (w:World):Calls Tryz.prog 64 #[.int .u64 (n:Int)] w fun e w'=>∃u,e=.returned u∧u=.int .i64 ((en n).length:Int)∧Below w.heap.size w w':=(r_size n hn w).mono fun _ _ h=>⟨_,h.1,rfl,h.2⟩
theorem bFld (cs:Array Value) (W:World):(Instr.box 118 (.agg cs)).run Tryz.prog W=.ok (.pointer (some ⟨W.heap.size,0,none⟩)) (W.alloc (.cells cs 118)):=by kernel_rfl
theorem r_at (p e:Int) (w:World):Calls Tryz.prog 61 #[.int .i64 p,.int .i64 e] w fun x w'=>x=.returned (.agg #[.int .i64 0,.int .i64 p,.int .i64 e])∧Below w.heap.size w w':=by
 have hb:Below w.heap.size w (w.alloc (.cells #[.int .i64 0,.int .i64 0,.int .i64 0] 41)):=(Below.refl _ _).alloc (Nat.le_refl _) _;have r1:=hp1_0 w (.cells #[.int .i64 0,.int .i64 0,.int .i64 0] 41);have hb2:=below_setRow (g:=w.heap.size) hb (Nat.le_refl _) #[.int .i64 0,.int .i64 p,.int .i64 e];have r2:=setRow_heap _ w.heap.size _ (#[.int .i64 0,.int .i64 p,.int .i64 e]) _ _ r1
 have hone:(#[Value.int .i64 0,.int .i64 p,.int .i64 e]:Array Value).all (·.oneCell')=true:=by simp[Value.oneCell']
 have A1:=hide hb2;have A2:=hide r2;clear hb hb2 r2
 go_enter Tryz.func61,Tryz.ntmps61
 go_wp2_with (first|(refine wpList_store_row rfl 41 _ _ rfl w.heap.size #[.int .i64 0,.int .i64 p,.int .i64 e] rfl rfl 41 _ r1 infoFt rfl hone ?_)|fail)
 exact bodyPost_ret (v:=.agg #[.int .i64 0,.int .i64 p,.int .i64 e]) (results_cell_row Tryz.results61 _ _ w.heap.size _ _ _ _ rfl A2.out Tryz.underlying41 rfl infoFt) rfl ⟨rfl,A1.out⟩
theorem r_wide (f:Fd) (ao:Option Addr) (cap:Nat) (hf:Fok f) (h0:0≤f.no) (h1:f.no≤536870911) (hk:known f.ty) (w:World):Calls Tryz.prog 62 #[.agg #[.int .i64 f.no,.int .i64 f.ty,.int .u64 (f.num:Int),.slice ao f.dat.length cap]] w fun e w'=>∃u,e=.returned u∧u=.int .i64 ((fby f).length:Int)∧Below w.heap.size w w':=by
 have ht:=known_lt hk;obtain⟨hf1,hf2,_,_⟩:=hf
 have hhd:(fhd f:Int)=8*f.no+f.ty:=by unfold fhd;omega
 have hhl:fhd f<18446744073709551616:=by omega
 have cS:=r_size (fhd f) hhl;have cN:=r_size f.num hf1
 have cD:=r_sizeX f.dat.length (by omega)
 have hten:=en_ten hhl;have hten2:=en_ten hf1
 have hten3:=en_ten (n:=f.dat.length) (by omega)
 have hl:(fby f).length=(en (fhd f)).length+(fvl f).length:=by rw[fby,List.length_append]
 have hvl:fvl f=if f.ty=0 then en f.num else if f.ty=1 then fx 8 f.num else if f.ty=5 then fx 4 f.num else itm f.dat:=rfl
 have hL0:f.ty=0→(fby f).length=(en (fhd f)).length+(en f.num).length:=fun t=>by rw[hl,hvl,if_pos t]
 have hL1:f.ty=1→(fby f).length=(en (fhd f)).length+8:=fun t=>by rw[hl,hvl,if_neg (by omega),if_pos t,fx_len]
 have hL5:f.ty=5→(fby f).length=(en (fhd f)).length+4:=fun t=>by rw[hl,hvl,if_neg (by omega),if_neg (by omega),if_pos t,fx_len]
 have hL2:f.ty=2→(fby f).length=(en (fhd f)).length+(en f.dat.length).length+f.dat.length:=fun t=>by rw[hl,hvl,if_neg (by omega),if_neg (by omega),if_neg (by omega),itm_len];omega
 unfold known at hk
 generalize (fby f).length=L at *
 clear hvl hl
 generalize (en (fhd f)).length=H at *
 generalize fhd f=HD at *
 generalize f.no=fno at *
 generalize f.ty=fty at *
 generalize f.num=num at *
 generalize f.dat.length=dl at *
 generalize (en dl).length=DL at *
 generalize (en num).length=NL at *
 clear f;rw[hhd] at cS;clear hhd hhl HD;have R0:=hp1_0 w (.cells #[.int .i64 fno,.int .i64 fty,.int .u64 (num:Int),.slice ao dl cap] 118);have hw:Below w.heap.size w (w.alloc (.cells #[.int .i64 fno,.int .i64 fty,.int .u64 (num:Int),.slice ao dl cap] 118)):=(Below.refl _ _).alloc (Nat.le_refl _) _
 go_enter Tryz.func62,Tryz.ntmps62
 go_upto_region 1 with(first|(refine wpList_box rfl 118 _ rfl _ rfl (bFld _) ?_)|fail)
 generalize w.alloc (.cells #[.int .i64 fno,.int .i64 fty,.int .u64 (num:Int),.slice ao dl cap] 118)=w1 at *
 have c0:=cell_of_row _ _ 0 _ _ _ R0;have c1:=cell_of_row _ _ 1 _ _ _ R0;have cS1:=hide (cS w1);clear cS
 go_wp2_with (fail)
 refine cS1.out.mono ?_;rintro e_ w2 ⟨rfl,hb_⟩;replace R0:=keep hb_ R0;replace hw:=Below.after hw hb_;clear hb_ cS1 c0 c1
 rcases hk with t|t|t|t
 ·have e:=hide (hL0 t)
  subst t
  have cN3:=hide (cN w2);have c1:=cell_of_row _ _ 1 _ _ _ R0;have c2:=cell_of_row _ _ 2 _ _ _ R0;clear hL0 hL1 hL2 hL5 cN cD
  go_wp2_with (fail)
  refine cN3.out.mono ?_;rintro e_ w4 ⟨rfl,hb_⟩;replace hw:=Below.after hw hb_;clear hb_ cN3
  go_wp2_with (fail)
  go_ret
  exact⟨_,rfl,by rw[e.out];go_num,hw⟩
 ·have e:=hide (hL1 t)
  subst t
  have c1:=cell_of_row _ _ 1 _ _ _ R0;clear hL0 hL1 hL2 hL5 cN cD
  go_wp2_with (fail)
  go_ret
  exact⟨_,rfl,by rw[e.out];go_num,hw⟩
 ·have e:=hide (hL2 t)
  subst t
  have c1:=cell_of_row _ _ 1 _ _ _ R0;clear hL0 hL1 hL2 hL5 cN
  go_upto_region 9 with(fail)
  clear c1;have hbd:Below w2.heap.size w2 w2.drew:=below_drN (Below.refl _ _) 1;replace R0:=keep hbd R0;replace hw:=Below.after hw hbd;clear hbd
  have q0:IntKind.wrap .u64 (dl:Int)=(dl:Int):=by show(dl:Int)%18446744073709551616=dl;omega
  have q1:IntKind.wrap .i64 ((H:Int)+(DL:Int))=(H:Int)+(DL:Int):=by rw[IntKind.wrap_i64];omega
  have q2:IntKind.wrap .i64 ((H:Int)+(DL:Int)+(dl:Int))=(H:Int)+(DL:Int)+(dl:Int):=by rw[IntKind.wrap_i64];omega
  refine wp_region_noPanic ?_
  refine wp_region_held (S:=fun W=>W.heap[w.heap.size]? =some (.cells #[.int .i64 fno,.int .i64 2,.int .u64 (num:Int),.slice ao dl cap] 118 (0,0))) (by kernel_rfl) ?_
  change wpAnyH _ _ _ _ _ _ _ _ (World.drew _)
  generalize w2.drew=y1 at *
  refine wTy 0 ?v1 rfl ?y1 R0 ?r1
  case y1=>
   intro w_ hS_;go_simp
   try with_reducible rfl
  simp only[Act.put,ZPa,ZPc,ZPd,ZPe,ZPf];refine wTy 1 ?v2 rfl ?y2 R0 ?r2
  case y2=>
   intro w_ hS_;go_simp
   try with_reducible rfl
  simp only[Act.put,ZPa,ZPb,ZPc,ZPd,ZPe,ZPf];refine wTy 2 (.slice ao dl cap) rfl ?y3 R0 ?r3
  case y3=>
   intro w_ hS_;have c_:=cell_of_row _ _ 3 _ _ _ hS_;go_simp
   try with_reducible rfl
  simp only[Act.put,ZPa,ZPb,ZPc,ZPd,ZPe,ZPf];refine wTy 3 ?v4 rfl ?y4 R0 ?r4
  case y4=>
   intro w_ hS_;go_simp
   try with_reducible rfl
  simp only[Act.put,ZPa,ZPb,ZPc,ZPd,ZPe,ZPf];refine wTy 4 (.int .u64 (dl:Int)) rfl ?y5 R0 ?r5
  case y5=>
   intro w_ hS_;go_simp
   try with_reducible rfl
  simp only[Act.put,ZPa,ZPb,ZPc,ZPd,ZPe,ZPf];refine wTy 7 ?v6 rfl ?y6 R0 ?r6
  case y6=>
   intro w_ hS_;go_simp
   try with_reducible rfl
  simp only[Act.put,ZPa,ZPb,ZPc,ZPd,ZPe,ZPf];refine wTy 8 (.slice ao dl cap) rfl ?y7 R0 ?r7
  case y7=>
   intro w_ hS_;have c_:=cell_of_row _ _ 3 _ _ _ hS_;go_simp
   try with_reducible rfl
  simp only[Act.put,ZPa,ZPb,ZPc,ZPd,ZPe,ZPf];refine wTy 9 ?v8 rfl ?y8 R0 ?r8
  case y8=>
   intro w_ hS_;go_simp
   try with_reducible rfl
  simp only[Act.put,ZPa,ZPb,ZPc,ZPd,ZPe,ZPf]
  refine wpAnyH_one (k:=5) (fuel:=3) (by kernel_rfl) rfl (by kernel_rfl) (fun K_ hK=>?_)
  refine wp_call_ex (f:=64) (by kernel_rfl) (cD y1) (fun v_ y2 hX_=>?_)
  obtain⟨rfl,hb_⟩:=hX_;replace R0:=keep hb_ R0;replace hw:=Below.after hw hb_;clear hb_;refine hK _ _ R0 ?_;simp only[Act.put,ZPa,ZPb,ZPc,ZPd,ZPe,ZPf];clear hK
  refine wpAnyH_take (i:=6) (v:=.int .i64 ((H:Int)+(DL:Int))) rfl (by kernel_rfl) (by kernel_rfl) (by kernel_rfl) (fun _ _ _ h=>h) (Or.inl ⟨by rfl,?y9⟩) R0 ?r9
  case y9=>
   intro w_ hS_;go_simp
   try with_reducible rfl
  simp only[Act.put,ZPa,ZPb,ZPc,ZPd,ZPe,ZPf]
  refine wpAnyH_take (i:=10) (v:=.int .i64 ((H:Int)+(DL:Int)+(dl:Int))) rfl (by kernel_rfl) (by kernel_rfl) (by kernel_rfl) (fun _ _ _ h=>h) (Or.inl ⟨by rfl,?y10⟩) R0 ?r10
  case y10=>
   intro w_ hS_;go_simp
   try with_reducible rfl
  simp only[Act.put,ZPa,ZPb,ZPc,ZPd,ZPe,ZPf];refine wTy 11 ?v11 rfl ?y11 R0 ?r11
  case y11=>
   intro w_ hS_;go_simp
   try with_reducible rfl
  simp only[Act.put,ZPa,ZPb,ZPc,ZPd,ZPe,ZPf]
  refine wpAnyH_done (by kernel_rfl) ?_ _
  refine NoPanic.normal ?_
  go_wp2_with (fail)
  go_ret
  exact⟨_,rfl,by rw[e.out];show Value.int .i64 ((H:Int)+(DL:Int)+(dl:Int))=_;congr 1,hw⟩
 ·have e:=hide (hL5 t)
  subst t
  have c1:=cell_of_row _ _ 1 _ _ _ R0;clear hL0 hL1 hL2 hL5 cN cD
  go_wp2_with (fail)
  go_ret
  exact⟨_,rfl,by rw[e.out];go_num,hw⟩
theorem results_cell_cell {P:Program} {fn:Func} {p q:Tmp} {ty tz:TypeId} (h:fn.results=#[.cell p ty,.cell q tz]) (tmps:Array Value) (w:World) (g g2:Nat) (t t2:TypeId) (cs cs2:Array Value) (fr fr2:Nat×Nat) (d d2:TypeDesc)
 (hp:tmps.getD p undef=.pointer (some ⟨g,0,none⟩)) (hg:w.heap[g]? =some (.cells cs t fr)) (hu:P.underlying ty=some d) (hd:(match d with| .struct _| .array _ _=>true|_=>false)=true) (hi:(P.info? ty).map (·.size)=some cs.size)
 (hp2:tmps.getD q undef=.pointer (some ⟨g2,0,none⟩)) (hg2:w.heap[g2]? =some (.cells cs2 t2 fr2)) (hu2:P.underlying tz=some d2) (hd2:(match d2 with| .struct _| .array _ _=>true|_=>false)=true) (hi2:(P.info? tz).map (·.size)=some cs2.size):
 (results fn tmps).run P w=.ok (.tuple #[.agg cs,.agg cs2]) w:=by
 have hp':tmps[p]?.getD undef=.pointer (some ⟨g,0,none⟩):=by simpa using hp
 have hp2':tmps[q]?.getD undef=.pointer (some ⟨g2,0,none⟩):=by simpa using hp2
 simp[results,h,hp',hp2',asAddr,run_loadVar_row w g t ty cs fr d hg hu hd hi,run_loadVar_row w g2 t2 tz cs2 fr2 d2 hg2 hu2 hd2 hi2]
theorem builtZvR:Tryz.prog.built 27 []=some #[.int .u64 0,nS,nS]:=by kernel_rfl
theorem builtZeR:Tryz.prog.built 41 []=some #[.int .i64 0,.int .i64 0,.int .i64 0]:=by kernel_rfl
end Go.Proofs.YtmmlkfkpblokiaaGreatDoor
