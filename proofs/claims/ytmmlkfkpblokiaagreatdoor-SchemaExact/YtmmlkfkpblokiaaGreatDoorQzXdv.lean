import Derived.Test.YtmmlkfkpblokiaaGreatDoorQzXdu
set_option maxRecDepth 100000
set_option maxHeartbeats 16000000
namespace Go.Proofs.YtmmlkfkpblokiaaGreatDoor
open Go Go.RowKit Go.Sort
attribute [local go_sem] setCell_drewN alloc_drewN
theorem nx_er {d:List B} {p:Nat} {last:Int} {c k q:Nat} {e:Int} (h:nx d p last c=.er q e) (hp:p<d.length) (hk:d.length-p≤k):whl d k p last c=([],some (q,e))∧e≠0:=by
 unfold nx at h
 cases hr:rh (d.drop p) last c with
 |er e2=>
  rw[hr] at h
  injection h with h1 h2
  subst h1 h2;exact⟨whl_head hp hk hr,rh_er hr⟩
 |ok no ty n=>
  rw[hr] at h;simp only at h
  cases hv:rv (d.drop (p+n)) ty with
  |er e2=>
   rw[hv] at h
   injection h with h1 h2
   subst h1 h2;exact⟨whl_value hp hk hr hv,rv_er hv⟩
  |ok num dat m=>rw[hv] at h;cases h
theorem nx_ok {d:List B} {p:Nat} {last:Int} {c k q:Nat} {f:Fd} (h:nx d p last c=.ok f q) (hp:p<d.length) (hk:d.length-p≤k):(∃j,d.length-q≤j∧whl d k p last c=((p,f)::(whl d j q f.no (c+1)).1,(whl d j q f.no (c+1)).2))∧p<q∧q≤d.length∧c≠64∧0≤f.no∧f.no≤536870911∧f.num<18446744073709551616∧f.dat.length≤d.length:=by
 unfold nx at h
 cases hr:rh (d.drop p) last c with
 |er e2=>rw[hr] at h;cases h
 |ok no ty n=>
  rw[hr] at h;simp only at h
  cases hv:rv (d.drop (p+n)) ty with
  |er e2=>rw[hv] at h;cases h
  |ok num dat m=>
   rw[hv] at h
   injection h with h1 h2
   subst h1 h2;have q1:=rh_ok hr;have q2:=rv_ok hv;rw[List.length_drop] at q1 q2
   exact⟨whl_step hp hk hr hv,by omega,by omega,q1.2.2.1,q1.2.2.2.2.2.2,q1.2.2.2.2.2.1,q2.2.1,by simp only;omega⟩
theorem row_grown {W V:World} {b e s n:Nat} {v:Value} {xs:List Value} {row:Option Nat} (h:W.ownsRow b e s v n xs) (hg:W.grownBy V row) (hne:∀k,v.ownBlock=some k→row≠some k):V.ownsRow b e s v n xs:=by
 obtain⟨h1,h2|⟨g,cap,cur,rfl,hb2,hr,h3⟩⟩:=h
 ·exact⟨h1,.inl h2⟩
 ·exact⟨h1,.inr ⟨g,cap,cur,rfl,hb2,(hg.block g (lt_of_row hr) (fun e=>hne g rfl e.symm)).trans hr,h3⟩⟩
theorem Fts.grown {W V:World} {b:Nat} {v:Value} {us:List Value} {fs:List Fd} {row:Option Nat} (h:Fts W b v us fs) (hg:W.grownBy V row) (h1:∀k,v.ownBlock=some k→row≠some k) (h2:∀i,i<us.length→∀k,(gv us i).ownBlock=some k→row≠some k):Fts V b v us fs:=
 ⟨row_grown h.1 hg h1,h.2.1,fun i hi=>row_grown (h.2.2.1 i hi) hg (h2 i hi),h.2.2.2⟩
def Nms (W:World) (b:Nat) (v:Value) (ns:List Nat):Prop:=W.ownsRow b 3 1 v ns.length (List.map (fun(n:Nat)=>Value.int IntKind.i64 (n:Int)) ns)
theorem info8i:∃i,Tryz.prog.info? 3=some i∧i.zero=some (.int .i64 0)∧i.size=1∧i.bytes=8:=⟨_,rfl,rfl,rfl,rfl⟩
theorem wpList_append_Nm {w:World} {ops:Array Oper} {rest:List Oper} {o:Oper} {a:Act} {Q:Exit→Act→World→Prop} (hgd:o.guard=none) (s x:Operand)
 (ho:o.op=.call {callee:=.builtin .append,args:=#[s,x],argTypes:=#[167,167]})
 (base:Nat) (v:Value) (ns:List Nat) (hs:a.eval s=v) (hI:Nms w base v ns) (n:Nat) (g:Nat) (hx:a.eval x=.slice (some ⟨g,0,none⟩) 1 1) (hnews:∀j x,[Value.int .i64 (n:Int)][j]? =some x→w.cell? ((⟨g,0,none⟩:Addr).add j)=some x)
 (hlen:ns.length<2932031007317) (hbase:base≤w.heap.size)
 (h:∀v' w',Nms w' base v' (ns++[n])→w.grownBy w' v.ownBlock→Nx w v v'→wpList Tryz.prog ops Q rest (a.put o.dst v') w'):wpList Tryz.prog ops Q (o::rest) a w:=by
 obtain⟨i0,hi,hz0,hz1,hz2⟩:=info8i
 refine wpList_plain hgd fun _ hK=>wp_append_nx s x 167 ho base 3 i0 (.int .i64 0) 1 8 Tryz.underlying167 hi hz0 hz1 hz2 rfl (by decide) v ns.length (List.map (fun(n:Nat)=>Value.int IntKind.i64 (n:Int)) ns) hs hI ⟨g,0,none⟩ 1 1 [Value.int .i64 (n:Int)] hx rfl hnews (fun x hx=>?_) (by unfold maxLen;omega) (by omega) hbase (fun v' w' h1 h2 h3=>hK _ _ (h v' w' ?_ h2 h3))
 ·simp at hx
  subst hx
  rfl
 ·unfold Nms
  rw[List.map_append,List.length_append]
  exact h1
theorem gv_app_lo2 {us:List Value} {u:Value} {i:Nat} (h:i<us.length):gv (us++[u]) i=gv us i:=by
 rw[gv,gv,List.getD_eq_getElem?_getD,List.getElem?_append_left h,←List.getD_eq_getElem?_getD]
theorem gv_app_hi2 {us:List Value} {u:Value}:gv (us++[u]) us.length=u:=by
 rw[gv,List.getD_eq_getElem?_getD,List.getElem?_append_right (Nat.le_refl _),Nat.sub_self];rfl
theorem r_whole7 (d:List B) (w:World) (v:Value) (hB:BysB w v d) (hcap:∀a l c,v=.slice a l c→l≤c):Calls Tryz.prog 85 #[v] w fun e w'=>∃u us pu,e=.returned (.tuple #[u,pu,.int .i64 (dpl (dwh d)),.int .i64 (der (dwh d))])∧Fts w' w.heap.size u us ((dwh d).1.map (·.2))∧Nms w' w.heap.size pu ((dwh d).1.map (·.1))∧Below w.heap.size w w':=by
 have hlen:=hB.2.1;obtain⟨ao,cap,rfl⟩:=hB.form;have hF0:=fts_empty w;have hF1:=hF0.keep (((Below.refl _ _).alloc (Nat.le_refl _) (.cells #[] 3)):Below _ _ _)
 have hN1:Nms ((w.alloc (.cells #[] 118)).alloc (.cells #[] 3)) w.heap.size (.slice (some ⟨w.heap.size+1,0,none⟩) 0 0) []:=⟨rfl,.inr ⟨w.heap.size+1,0,#[],rfl,by omega,hp2_1 _ _ _,Nat.le_refl _,by decide,rfl,rfl⟩⟩
 have hw1:Below w.heap.size w ((w.alloc (.cells #[] 118)).alloc (.cells #[] 3)):=((Below.refl _ _).alloc (Nat.le_refl _) _).alloc (by simp) _
 clear hF0
 by_cases h1:4194304<d.length
 ·have hdw:dwh d=([],some (0,2)):=if_pos h1
  have d1:decide ((d.length:Int)>4194304)=true:=by simp;omega
  rw[hdw];simp only[dpl,der,List.map_nil];clear hdw
  go_enter Tryz.func85,Tryz.ntmps85
  go_wp2_with (fail)
  refine bodyPost_ret (results_tmp4 rfl _ _ _) rfl ?_;exact⟨_,[],_,rfl,hF1,hN1,hw1⟩
 ·have hdw:dwh d=whl d d.length 0 0 0:=if_neg h1
  have d1:decide ((d.length:Int)>4194304)=false:=by simp;omega
  rw[hdw];clear hdw
  go_enter Tryz.func85,Tryz.ntmps85
  go_wp2_with (fail)
  generalize (w.alloc (.cells #[] 118)).alloc (.cells #[] 3)=w0 at *
  go_loopw [6,7,8,9] (fun s t i j wr=>∃(q k:Nat) (last:Int) (us:List Value) (pre:List (Nat×Fd)) (n:Nat) (so:Option Addr) (sc:Nat) (po:Option Addr) (pc:Nat),n=pre.length∧q≤d.length∧i=.int .i64 (q:Int)∧0≤last∧last≤536870911∧j=.int .i64 last∧s=.slice so n sc∧t=.slice po n pc∧n≤64∧Fts wr w.heap.size (.slice so n sc) us (pre.map (·.2))∧Nms wr w.heap.size (.slice po n pc) (pre.map (·.1))∧(∀k,(Value.slice po n pc).ownBlock=some k→(Value.slice so n sc).ownBlock≠some k∧∀i,i<us.length→(gv us i).ownBlock≠some k)∧d.length-q≤k∧whl d d.length 0 0 0=(pre++(whl d k q last n).1,(whl d k q last n).2)∧Below w.heap.size w wr) (fun _ _ i _ _=>d.length-(intOf i).toNat)
  case atStart=>exact⟨0,d.length,0,[],[],0,_,_,_,_,rfl,by omega,rfl,by omega,by omega,rfl,rfl,rfl,by omega,hF1,hN1,fun k e=>⟨fun e2=>by cases e;have:=Option.some.inj e2;simp at this,fun i hi=>by simp at hi⟩,by omega,by simp,hw1⟩
  case round=>
   clear hF1 hN1 hw1;obtain⟨q,k,last,us,pre,n,so,sc,po,pc,hn,hq,rfl,hl0,hl1,rfl,rfl,rfl,hn64,hI,hN,hD,hk,hwh,hw⟩:=hrel;have hws:=hw.size
   by_cases hlt:q<d.length
   ·have hd:decide ((q:Int)<(d.length:Int))=true:=by simp;omega
    have cX:=r_next d q last n hq hl0 hn64 wr _ (hB.keep hw) hcap
    cases hx:nx d q last n with
    |er qe e=>
     obtain⟨he1,he2⟩:=nx_er hx hlt hk;rw[he1,List.append_nil] at hwh;have hfin:Hid (whl d d.length 0 0 0=(pre,some (qe,e))):=hide hwh
     have he:(e==0)=false:=by simpa using he2
     rw[hx] at cX;clear hwh he1 he2 hx;unfold nxv nxd fagg f0 at cX;simp only at cX;replace hn:=hide hn
     go_wp2_with (fail)
     refine cX.mono ?_;rintro e_ w1 ⟨u,rfl,hO,hb⟩;have r0:=hp1_0 w1 (.cells #[.int .i64 0,.int .i64 0,.int .u64 0,nS] 118)
     have hone:(#[.int .i64 0,.int .i64 0,.int .u64 0,nS]:Array Value).all (·.oneCell')=true:=by simp[Value.oneCell']
     have hbx:Below wr.heap.size wr ((w1.alloc (.cells #[.int .i64 0,.int .i64 0,.int .u64 0,nS] 118)).setRow w1.heap.size #[.int .i64 0,.int .i64 0,.int .u64 0,nS]):=below_setRow (hb.alloc hb.size _) hb.size #[.int .i64 0,.int .i64 0,.int .u64 0,nS]
     go_wp2_with (first|(refine wpList_alloc rfl 118 rfl #[.int .i64 0,.int .i64 0,.int .u64 0,nS] zFd ?_)|(refine wpList_store_row rfl 118 _ _ rfl (w1.heap.size) #[.int .i64 0,.int .i64 0,.int .u64 0,nS] rfl rfl 118 _ r0 infoF rfl hone ?_)|fail)
     refine bodyPost_ret (results_tmp4 rfl _ _ _) rfl ?_;rw[hfin.out];exact⟨_,us,_,rfl,hI.keep hbx,own_keep_row hN hbx,Below.after hw hbx⟩
    |ok f q2=>
     obtain⟨⟨k2,hk2,he1⟩,hq2,hq3,hc64,hf0,hf1,hf2,hf3⟩:=nx_ok hx hlt hk;rw[he1] at hwh
     have hnext:Hid (whl d d.length 0 0 0=(pre++[(q,f)]++(whl d k2 q2 f.no (n+1)).1,(whl d k2 q2 f.no (n+1)).2)):=hide (by rw[hwh];simp)
     rw[hx] at cX;clear hwh he1 hx;unfold nxv nxd fagg at cX;simp only at cX;replace hn:=hide hn
     go_wp2_with (fail)
     refine cX.mono ?_;rintro e_ w1 ⟨u,rfl,hO,hb⟩;obtain⟨uo,uc,hu⟩:=slen_own hO;subst hu;have r0:=hp1_0 w1 (.cells #[.int .i64 0,.int .i64 0,.int .u64 0,nS] 118)
     have hone:(#[.int .i64 f.no,.int .i64 f.ty,.int .u64 (f.num:Int),.slice uo f.dat.length uc]:Array Value).all (·.oneCell')=true:=by simp[Value.oneCell']
     have hbx:Below w1.heap.size w1 ((w1.alloc (.cells #[.int .i64 0,.int .i64 0,.int .u64 0,nS] 118)).setRow w1.heap.size #[.int .i64 f.no,.int .i64 f.ty,.int .u64 (f.num:Int),.slice uo f.dat.length uc]):=below_setRow ((Below.refl _ _).alloc (Nat.le_refl _) _) (Nat.le_refl _) #[.int .i64 f.no,.int .i64 f.ty,.int .u64 (f.num:Int),.slice uo f.dat.length uc];have r1:=setRow_heap _ w1.heap.size _ #[.int .i64 f.no,.int .i64 f.ty,.int .u64 (f.num:Int),.slice uo f.dat.length uc] _ _ r0;have hhi:=hI.high;have hNhi:=own_high_row hN;have hb1:=hb.size;clear cX
     go_wp2_with (first|(refine wpList_alloc rfl 118 rfl #[.int .i64 0,.int .i64 0,.int .u64 0,nS] zFd ?_)|(refine wpList_store_row rfl 118 _ _ rfl (w1.heap.size) #[.int .i64 f.no,.int .i64 f.ty,.int .u64 (f.num:Int),.slice uo f.dat.length uc] rfl rfl 118 _ r0 infoF rfl hone ?_)|(refine wpList_load_want rfl 118 _ rfl (w1.heap.size) rfl 118 #[.int .i64 f.no,.int .i64 f.ty,.int .u64 (f.num:Int),.slice uo f.dat.length uc] (0,0) _ r1 Tryz.underlying118 rfl infoF ?_)|(at_builtin;suffices h9:True∧_ from h9.2)|fail)
     refine⟨trivial,?_⟩;have hl2:=lt_of_row r1
     have hsx:((w1.alloc (.cells #[.int .i64 0,.int .i64 0,.int .u64 0,nS] 118)).setRow w1.heap.size #[.int .i64 f.no,.int .i64 f.ty,.int .u64 (f.num:Int),.slice uo f.dat.length uc]).heap.size=w1.heap.size+1:=by rw[setRow_sz,size_alloc1]
     have hbA:=Below.after hb hbx;have hO2:=hO.keep hbx;clear r0 hone hb
     generalize hg1:w1.heap.size=g at *
     generalize (w1.alloc (.cells #[.int .i64 0,.int .i64 0,.int .u64 0,nS] 118)).setRow g #[.int .i64 f.no,.int .i64 f.ty,.int .u64 (f.num:Int),.slice uo f.dat.length uc]=w2 at *
     have hbn:Below w2.heap.size w2 (w2.alloc (.cells #[.int .i64 f.no,.int .i64 f.ty,.int .u64 (f.num:Int),.slice uo f.dat.length uc] 118)):=(Below.refl _ _).alloc (Nat.le_refl _) _;have hbB:=Below.after hbA hbn;have hI3:=hI.keep hbB;have hN3:Nms _ _ _ _:=own_keep_row hN hbB;have hO3:=hO2.keep hbn;have r3:=keep hbn r1;have hw3:=Below.after hw hbB;have hnc:=new_cells4 w2 #[.int .i64 f.no,.int .i64 f.ty,.int .u64 (f.num:Int),.slice uo f.dat.length uc] 118;rw[hsx] at hnc
     refine wpList_append_F rfl (.tmp 40) (.tmp 42) rfl w.heap.size (.slice so n sc) us (pre.map (·.2)) rfl wr.heap.size hI3 (fun k' e=>hhi.1 k' e) (fun i hi k' e=>hhi.2 i hi k' e) (by omega) _ f hO3 (g+1) rfl hnc (by rw[List.length_map,←hn.out];omega) (by rw[size_alloc1];omega) ?_
     intro v5 w5 hI5 hgr hnx
     have hw5:=hw3.grown hgr hw3.size (fun k' e=>(own_high_row hI3.1 k' e).1)
     have hN5:Nms w5 w.heap.size (.slice po n pc) (pre.map (·.1)):=row_grown hN3 hgr (fun k' e=>(hD k' e).1)
     have hg3:g<(w2.alloc (.cells #[.int .i64 f.no,.int .i64 f.ty,.int .u64 (f.num:Int),.slice uo f.dat.length uc] 118)).heap.size:=lt_of_row r3
     have r5:w5.heap[g]? =some (.cells #[.int .i64 f.no,.int .i64 f.ty,.int .u64 (f.num:Int),.slice uo f.dat.length uc] 118 (0,0)):=(hgr.block g hg3 (fun e=>by have:=hhi.1 g e.symm;omega)).trans r3
     obtain⟨o5,c5,hv5⟩:=slen_own hI5.1
     have hl5:(pre.map (·.2)++[f]).length=n+1:=by rw[List.length_append,List.length_map,←hn.out];rfl
     rw[hl5] at hv5
     have hD5:∀k,(Value.slice po n pc).ownBlock=some k→v5.ownBlock≠some k∧∀i,i<(us++[Value.slice uo f.dat.length uc]).length→(gv (us++[Value.slice uo f.dat.length uc]) i).ownBlock≠some k:=by
      intro k' e;have hk':=(hNhi k' e).2
      refine⟨hnx.ne (by rw[size_alloc1];omega) (hD k' e).1,fun i hi=>?_⟩
      rw[List.length_append,List.length_singleton] at hi
      by_cases h:i<us.length
      ·rw[gv_app_lo2 h];exact(hD k' e).2 i h
      ·obtain rfl:i=us.length:=by omega
       rw[gv_app_hi2]
       intro e2;have:=own_low hO k' e2;omega
     have hs5:wr.heap.size≤w5.heap.size:=by have:=hgr.size;rw[size_alloc1] at this;omega
     clear hgr hnx hI3 hN3 hO3 hO2 hO r1 r3 hnc hbB hbn hbA hbx hI hN hw3 hD hhi;have hbm:Below w5.heap.size w5 (w5.alloc (.cells #[.int .i64 (q:Int)] 3)):=(Below.refl _ _).alloc (Nat.le_refl _) _;have hI6:=hI5.keep hbm;have hN6:Nms _ _ _ _:=own_keep_row hN5 hbm;have r6:=keep hbm r5;have hw6:=Below.after hw5 hbm;have hnc6:=new_cell1 w5 (.int .i64 (q:Int)) 3;subst hv5
     generalize us++[Value.slice uo f.dat.length uc]=us5 at *
     go_wp2_with (at_builtin;suffices h9:True∧_ from h9.2)
     refine⟨trivial,?_⟩
     refine wpList_append_Nm rfl (.tmp 44) (.tmp 46) rfl w.heap.size (.slice po n pc) (pre.map (·.1)) rfl hN6 q w5.heap.size rfl hnc6 (by rw[List.length_map,←hn.out];omega) (by rw[size_alloc1];omega) ?_
     intro v7 w7 hN7 hgr hnx
     have hw7:=hw6.grown hgr hw6.size (fun k' e=>(own_high_row hN6 k' e).1)
     have hI7:Fts w7 w.heap.size (.slice o5 (n+1) c5) us5 (pre.map (·.2)++[f]):=hI6.grown hgr (fun k' e e2=>(hD5 k' e2).1 e) (fun i hi k' e e2=>(hD5 k' e2).2 i hi e)
     have r7:w7.heap[g]? =some (.cells #[.int .i64 f.no,.int .i64 f.ty,.int .u64 (f.num:Int),.slice uo f.dat.length uc] 118 (0,0)):=(hgr.block g (lt_of_row r6) (fun e=>by have:=(hNhi g e.symm).2;omega)).trans r6
     obtain⟨o7,c7,hv7⟩:=slen_own hN7
     have hl7:(pre.map (·.1)++[q]).length=n+1:=by rw[List.length_append,List.length_map,←hn.out];rfl
     rw[hl7] at hv7;have hh5:=hI5.high
     have hD7:∀k,v7.ownBlock=some k→(Value.slice o5 (n+1) c5).ownBlock≠some k∧∀i,i<us5.length→(gv us5 i).ownBlock≠some k:=by
      intro k' e
      rcases hnx with e2|⟨k2,e2,hk2⟩
      ·exact hD5 k' (e2▸e)
      ·rw[e2] at e
       obtain rfl:=Option.some.inj e
       rw[size_alloc1] at hk2
       exact⟨fun e3=>by have:=hh5.1 _ e3;omega,fun i hi e3=>by have:=hh5.2 i hi _ e3;omega⟩
     have c7':w7.cell? ⟨g,0,none⟩=some (.int .i64 f.no):=by rw[cell_of_row _ g 0 _ _ _ r7];rfl
     clear hgr hnx hI6 hN6 hN5 hI5 hh5 r6 r5 hnc6 hbm hw5 hw6 hNhi hD5;subst hv7
     have e2:(pre++[(q,f)]).map (·.2)=pre.map (·.2)++[f]:=by simp
     have e1:(pre++[(q,f)]).map (·.1)=pre.map (·.1)++[q]:=by simp
     have e3:n+1=(pre++[(q,f)]).length:=by rw[List.length_append,←hn.out];rfl
     rw[←e2] at hI7;rw[←e1] at hN7
     have hn1:n+1≤64:=by omega
     generalize pre++[(q,f)]=pre2 at *
     generalize n+1=n2 at *
     replace e3:=hide e3;clear e1 e2 hl5 hl7 hn
     go_wp2_with (fail)
     refine⟨⟨q2,k2,f.no,us5,pre2,n2,o5,c5,o7,c7,e3.out,hq3,rfl,hf0,hf1,rfl,rfl,rfl,hn1,hI7,hN7,hD7,hk2,hnext.out,hw7⟩,?_⟩
     simp[intOf];omega
   ·have hd:decide ((q:Int)<(d.length:Int))=false:=by simp;omega
    rw[whl_end hlt,List.append_nil] at hwh
    have hfin:Hid (whl d d.length 0 0 0=(pre,none)):=hide hwh;clear hwh;replace hn:=hide hn
    go_wp2_with (fail)
    refine bodyPost_ret (results_tmp4 rfl _ _ _) rfl ?_;rw[hfin.out];exact⟨_,us,_,rfl,hI,hN,hw⟩
theorem r_decode (d:List B) (w:World) (v:Value) (hB:BysB w v d) (hcap:∀a l c,v=.slice a l c→l≤c):Calls Tryz.prog 60 #[v] w fun e w'=>∃u us,e=.returned (.tuple #[u,.int .i64 (dpl (dwh d)),.int .i64 (der (dwh d))])∧Fts w' w.heap.size u us (dfs (dwh d))∧Below w.heap.size w w':=by
 have cW:=r_whole7 d w v hB hcap
 cases hx:(dwh d).2 with
 |none=>
  have e0:der (dwh d)=0:=by unfold der;rw[hx]
  have e1:dpl (dwh d)=0:=by unfold dpl;rw[hx]
  have e2:dfs (dwh d)=(dwh d).1.map (·.2):=by unfold dfs;rw[hx]
  rw[e0,e1] at cW;rw[e0,e1,e2];clear e0 e1 e2 hx
  go_enter Tryz.func60,Tryz.ntmps60
  go_wp2_with (fail)
  refine cW.mono ?_;rintro e_ w1 ⟨u,us,pu,rfl,hF,hN,hb⟩
  go_wp2_with (fail)
  go_ret3
  exact⟨_,us,rfl,hF,hb⟩
 |some x=>
  have e0:der (dwh d)≠0:=by
   unfold der;rw[hx];unfold dwh at hx
   split at hx
   ·injection hx with hx;subst hx;decide
   ·exact whl_er _ _ _ _ hx
  have e2:dfs (dwh d)=[]:=by unfold dfs;rw[hx]
  rw[e2]
  have he:(der (dwh d)==0)=false:=by simpa using e0
  clear e0 e2 hx
  generalize der (dwh d)=E at *
  generalize dpl (dwh d)=L at *
  go_enter Tryz.func60,Tryz.ntmps60
  go_wp2_with (fail)
  refine cW.mono ?_;rintro e_ w1 ⟨u,us,pu,rfl,hF,hN,hb⟩
  go_wp2_with (fail)
  go_ret3
  exact⟨_,[],rfl,fts_nil _ _,hb⟩
end Go.Proofs.YtmmlkfkpblokiaaGreatDoor
