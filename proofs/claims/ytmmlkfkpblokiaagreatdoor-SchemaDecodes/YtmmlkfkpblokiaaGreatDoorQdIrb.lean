import Derived.Test.YtmmlkfkpblokiaaGreatDoorQdUy
import Derived.Recover
import Derived.Defers
import Derived.Test.YtmmlkfkpblokiaaGreatDoorQdOpen
import Derived.Test.YtmmlkfkpblokiaaGreatDoorQdUc
import Derived.Test.YtmmlkfkpblokiaaGreatDoorProg
import Derived.WalkKit
import Derived.WalkSpells
import Derived.WalkLawsBesides
import Derived.Lib.QuietBelow
import Derived.Laws.BitsAllLaws
import Derived.BigQuiet
import Derived.WalkMore
import Derived.Test.YtmmlkfkpblokiaaGreatDoorQdWq
import Derived.Test.YtmmlkfkpblokiaaGreatDoorQdUm
namespace Go.Proofs.YtmmlkfkpblokiaaGreatDoor
set_option maxRecDepth 100000
open Go Go.RowKit Go.Sort
attribute [local go_sem] setCell_drewN alloc_drewN
theorem infoStI:∃i,Tryz.prog.info? 114=some i∧i.zero=some (.agg #[.int .i64 0,.int .i64 0,.nilFunc,.nilFunc,.nilFunc])∧i.size=5∧i.bytes=40:=⟨_,rfl,rfl,rfl,rfl⟩
theorem wpList_append_st {w:World} {ops:Array Oper} {rest:List Oper} {o:Oper} {a:Act} {Q:Exit→Act→World→Prop} (hgd:o.guard=none) (s x:Operand)
 (ho:o.op=.call {callee:=.builtin .append,args:=#[s,x],argTypes:=#[75,75]})
 (base:Nat) (v:Value) (k:Nat) (xs:List Value) (hs:a.eval s=v) (hO:w.ownsRow base 114 5 v k xs) (hk:k≤100)
 (cs:List Value) (hcl:cs.length=5) (g:Nat) (hx:a.eval x=.slice (some ⟨g,0,none⟩) 1 1) (hnews:∀j y,cs[j]? =some y→w.cell? ((⟨g,0,none⟩:Addr).add j)=some y) (h1:∀u∈cs,u.oneCell'=true)
 (hbase:base≤w.heap.size)
 (h:∀v' w',w'.ownsRow base 114 5 v' (k+1) (xs++cs)→w.grownBy w' v.ownBlock→Nx w v v'→wpList Tryz.prog ops Q rest (a.put o.dst v') w'):wpList Tryz.prog ops Q (o::rest) a w:=by
 obtain⟨i0,hi,hz0,hz1,hz2⟩:=infoStI
 exact wpList_plain hgd fun _ hK=>wp_append_nx s x 75 ho base 114 i0 (.agg #[.int .i64 0,.int .i64 0,.nilFunc,.nilFunc,.nilFunc]) 5 40 Tryz.underlying75 hi hz0 hz1 hz2 rfl (by decide) v k xs hs hO ⟨g,0,none⟩ 1 1 cs hx (by rw[hcl]) hnews h1 (by unfold maxLen;omega) (by omega) hbase (fun v' w' h2 h3 h4=>hK _ _ (h v' w' h2 h3 h4))
def rws (rows:Nat→Array Value):Nat→List Value
 |0=>[]
 |k+1=>rws rows k++(rows k).toList
theorem rws_len {rows:Nat→Array Value}:∀k,(∀i,i<k→(rows i).size=5)→(rws rows k).length=k*5
 |0,_=>rfl
 |k+1,h=>by
  rw[rws,List.length_append,rws_len k (fun i hi=>h i (by omega))]
  have:=h k (by omega)
  simp[this]
  omega
theorem rws_at {rows:Nat→Array Value}:∀(k i j:Nat),(∀i,i<k→(rows i).size=5)→i<k→j<5→(rws rows k)[i*5+j]? =(rows i).toList[j]?
 |0,i,j,_,h,_=>by omega
 |k+1,i,j,h,hi,hj=>by
  have hl:=rws_len k (fun i hi=>h i (by omega))
  rw[rws]
  rcases Nat.lt_or_ge i k with q|q
  ·rw[List.getElem?_append_left (by omega)]
   exact rws_at k i j (fun i hi=>h i (by omega)) q hj
  ·obtain rfl:i=k:=by omega
   rw[List.getElem?_append_right (by omega),hl]
   congr 1
   omega
def RdI (W:World) (S:Nat→Prop) (ts:List Slt) (rows:Nat→Array Value) (us:Nat→Value) (k:Nat):Prop:=∀i,i<k→SlC W S (gs ts i) (us i) (rows i)∧(nst (gs ts i)→RdL W S (us i) (gs ts i).sub)
theorem RdI.keep {W V:World} {S T:Nat→Prop} {ts:List Slt} {rows:Nat→Array Value} {us:Nat→Value} {k:Nat} (h:RdI W S ts rows us k) (hk:Sty W V S T):RdI V T ts rows us k:=fun i hi=>⟨(h i hi).1.keep hk,fun hn=>((h i hi).2 hn).keep hk⟩
theorem rdv_size {W:World} {S:Nat→Prop} {t:Slt} {x:Value} {row:Array Value} (h:SlC W S t x row):row.size=5:=by
 obtain⟨_,_,_,_,_,_,_,rfl⟩:=rdv_form h;rfl
theorem RdL.of {W:World} {base:Nat} {ts:List Slt} {rows:Nat→Array Value} {us:Nat→Value} {v:Value} (hl:ts.length≤16) (h:RdI W (fun b=>base≤b∧v.ownBlock≠some b) ts rows us ts.length) (hO:W.ownsRow base 114 5 v ts.length (rws rows ts.length)):RdL W (fun b=>base≤b) v ts:=by
 have hsz:∀i,i<ts.length→(rows i).size=5:=fun i hi=>rdv_size (h i hi).1
 have hk:RdI W (fun b=>base≤b) ts rows us ts.length:=h.keep ⟨Nat.le_refl _,fun b _ hb=>⟨rfl,hb.1⟩⟩
 have hcl:=fun g hg=>hO.cells (g:=g) hg
 obtain⟨q1,⟨hv,h0⟩|⟨g,cap,cur,hv,hb,hg,hn,hm,hs,ht⟩⟩:=hO
 ·subst hv
  have e0:ts=[]:=List.eq_nil_of_length_eq_zero h0
  subst e0
  exact RdL.mk none 0 [] rows us (by simp) (by simp) (fun _=>rfl) (fun i hi=>by simp at hi) (fun i hi=>by simp at hi)
 ·subst hv
  refine RdL.mk (some ⟨g,0,none⟩) cap ts rows us hl hn (fun e=>by cases e) (fun i hi=>⟨g,rfl,lt_of_row hg,hb,?_,(hk i hi).1⟩) (fun i hi hnn=>(hk i hi).2 hnn)
  intro j x hx
  have hj:j<5:=by
   have:=(List.getElem?_eq_some_iff.1 hx).1;have:=hsz i hi
   simp at *
   omega
  have:=hcl g rfl (i*5+j) x (by rw[rws_at _ _ _ hsz hi hj];exact hx)
  rw[add_off] at this;rw[←this]
end Go.Proofs.YtmmlkfkpblokiaaGreatDoor
namespace Go.Proofs.YtmmlkfkpblokiaaGreatDoor
set_option maxRecDepth 100000
open Go Go.RowKit Go.Sort
attribute [local go_sem] setCell_drewN alloc_drewN
theorem rws_congr {f g:Nat→Array Value}:∀k,(∀i,i<k→f i=g i)→rws f k=rws g k
 |0,_=>rfl
 |k+1,h=>by rw[rws,rws,rws_congr k (fun i hi=>h i (by omega)),h k (by omega)]
set_option maxRecDepth 100000 in
set_option maxHeartbeats 16000000 in
theorem a_compile {W:World} {S:Nat→Prop} {v:Value} {ts:List Slt} (h:MsgL W S v ts):gd ts→∀w,Below W.heap.size W w→Calls Tryz.prog 43 #[v] w fun e w'=>∃v',e=.returned v'∧(∃xo xn xc,v'=.slice xo xn xc)∧Below w.heap.size w w'∧RdL w' (fun b=>w.heap.size≤b) v' ts:=by
 induction h with
 |mk ao cap ts us hl hc h hs ih=>
  intro hgd w hw
  go_enter Tryz.func43,Tryz.ntmps43
  go_wp2_with (fail)
  go_loopw [3,8] (fun out i wr=>∃(k:Nat) (rows:Nat→Array Value) (xs:Nat→Value),k≤ts.length∧i=.int .i64 k∧Below w.heap.size w wr∧wr.ownsRow w.heap.size 114 5 out k (rws rows k)∧RdI wr (fun b=>w.heap.size≤b∧out.ownBlock≠some b) ts rows xs k) (fun _ i _=>ts.length-(intOf i).toNat)
  case atStart=>exact⟨0,fun _=>#[],fun _=>undef,by omega,rfl,Below.refl _ _,⟨rfl,.inl ⟨rfl,rfl⟩⟩,fun i hi=>by omega⟩
  case round=>
   obtain⟨k,rows,xs,hk,rfl,hb,hO,hI⟩:=hrel;obtain⟨mo,mc,rfl⟩:=own_slice hO;have hww:=Below.after hw hb
   by_cases hlt:k<ts.length
   ·have hd:decide ((k:Int)<(ts.length:Int))=true:=by simp;omega
    have hk1:0≤(k:Int)∧(k:Int)<(ts.length:Int):=by omega
    obtain⟨b,off,hao,hbl,_,hra,hok,hFl⟩:=h k hlt;obtain⟨_,hfit,hsubg⟩:=gd_at ts k hlt hgd
    have hform:nst (gs ts k)→∃so sn sc,gvs us k=.slice so sn sc:=fun hn=>(hs k hlt hn).form.elim fun _ q=>q.elim fun _ q=>⟨_,_,_,q⟩
    have hih:=fun hn=>ih k hlt hn (hsubg hn)
    subst hao;have hrw:=rangeS_keep2 hra hww hbl;have y0:wr.cell? ⟨b,off+k*2,none⟩=_:=hrw 0 _ rfl;have y1:wr.cell? ⟨b,off+k*2+1,none⟩=_:=hrw 1 _ rfl
    have cR:=fun V hV=>a_ready_any (t:=gs ts k) hfit hFl V hform (fun hn V' hV'=>hih hn V' (Below.after (Below.after hww hV) hV'))
    obtain⟨T,c,hsh⟩:=shp_iface (gs ts k) (gvs us k);rw[hsh] at y1 cR
    generalize hno:(gs ts k).no=no at *
    replace hno:=hide hno;clear h hs ih hra hrw hFl hfit hsubg hform hih hsh hok;have hba:Below wr.heap.size wr (wr.alloc (.cells #[.int .i64 no,.iface T c] 138)):=(Below.refl _ _).alloc (Nat.le_refl _) _;have cR1:=cR _ hba;have A1:=hide hba;have A2:=hide hb;have A3:=hide hO;have A7:=hide hI;clear cR hba hb hO hww hI
    go_wp2_with (fail)
    generalize wr.alloc (.cells #[.int .i64 no,.iface T c] 138)=w1 at *
    refine cR1.mono ?_;rintro e_ w2 ⟨row,x,rfl,hb2,hSl,hRd⟩;clear cR1;obtain⟨wt,k1,k2,k3,a1,a2,a3,hrow⟩:=rdv_form hSl;rw[hno.out] at hrow
    have hI2:RdI w2 (fun b=>w.heap.size≤b∧(Value.slice mo k mc).ownBlock≠some b∧b<w2.heap.size) ts (fun i=>if i=k then row else rows i) (fun i=>if i=k then x else xs i) (k+1):=fun i hi=>by
     have hs1:=A1.out.size;have hs2:=hb2.size
     rcases Nat.lt_or_ge i k with q|q
     ·have hne:i≠k:=by omega
      simp only[if_neg hne]
      have hst:Sty wr w2 (fun b=>w.heap.size≤b∧(Value.slice mo k mc).ownBlock≠some b) (fun b=>w.heap.size≤b∧(Value.slice mo k mc).ownBlock≠some b∧b<w2.heap.size):=⟨by omega,fun b h1 h2=>⟨(Below.after A1.out hb2).block b h1,h2.1,h2.2,by omega⟩⟩
      exact⟨((A7.out i q).1).keep hst,fun hn=>((A7.out i q).2 hn).keep hst⟩
     ·obtain rfl:i=k:=by omega
      simp only[if_true]
      have hst:Sty w2 w2 (fun b=>w1.heap.size≤b) (fun b=>w.heap.size≤b∧(Value.slice mo i mc).ownBlock≠some b∧b<w2.heap.size):=⟨Nat.le_refl _,fun b h1 h2=>⟨rfl,by have:=A2.out.size;omega,fun e=>by have:=(own_lt A3.out b e).2;omega,h1⟩⟩
      exact⟨hSl.keep hst,fun hn=>(hRd hn).keep hst⟩
    have hrw2:rws rows k++row.toList=rws (fun i=>if i=k then row else rows i) (k+1):=by
     rw[rws,if_pos rfl]
     congr 1
     exact rws_congr k fun i hi=>(if_neg (by omega)).symm
    subst hrow;have hbb:=Below.after A1.out hb2;have A8:=hide hI2;clear hI2 hSl hRd A7;have hB:=Below.after A2.out hbb
    have hO2:=own_but (w':=w2) A3.out fun q hq=>hbb.block q (own_lt A3.out q hq).2
    unfold rdv;have cN1:=hp1_0 w2 (.cells (rdv no wt k1 k2 k3 a1 a2 a3) 114)
    have hnc:∀j y,(rdv no wt k1 k2 k3 a1 a2 a3).toList[j]? =some y→(w2.alloc (.cells (rdv no wt k1 k2 k3 a1 a2 a3) 114)).cell? ((⟨w2.heap.size,0,none⟩:Addr).add j)=some y:=fun j y hy=>by
     rw[add_off,cell_of_row _ _ _ _ _ _ cN1]
     simpa using hy
    have hba2:Below w2.heap.size w2 (w2.alloc (.cells (rdv no wt k1 k2 k3 a1 a2 a3) 114)):=(Below.refl _ _).alloc (Nat.le_refl _) _
    have hO3:=own_but (w':=w2.alloc (.cells (rdv no wt k1 k2 k3 a1 a2 a3) 114)) hO2 fun q hq=>hba2.block q (own_lt hO2 q hq).2
    have hone:∀x∈(rdv no wt k1 k2 k3 a1 a2 a3).toList,x.oneCell'=true:=fun x hx=>by
     simp[rdv] at hx
     rcases hx with rfl|rfl|rfl|rfl|rfl<;>rfl
    have hsz2:=hB.size;unfold rdv at hnc hO3 hba2 hone;have A4:=hide hB;have A5:=hide hba2;have A6:=hide hO2;clear hB hba2 hO2 cN1 A1 A2 A3 hb2 hbb y0 y1
    go_wp2_with (first|(at_builtin;refine wpList_append_st rfl (.tmp 12) (.tmp 15) rfl w.heap.size _ k _ rfl hO3 (by omega) _ rfl w2.heap.size rfl hnc hone (by rw[size_alloc1];omega) ?_)|fail)
    intro v' w3 h1 h2 h3
    have hB3:Below w.heap.size w w3:=by
     refine(A4.out.trans (A5.out.mono hsz2)).grown h2 (by rw[size_alloc1];omega) (fun q hq=>?_)
     exact(own_lt A6.out q hq).1
    have hI3:RdI w3 (fun b=>w.heap.size≤b∧v'.ownBlock≠some b) ts _ _ (k+1):=A8.out.keep ⟨by have:=h2.size;rw[size_alloc1] at this;omega,fun b h4 h5=>by
     have e1:=h2.block b (by rw[size_alloc1];omega) (fun e=>h5.2.1 e.symm)
     refine⟨e1.trans (A5.out.block b h4),h5.1,fun e=>?_⟩
     rcases h3 with e2|⟨q,e2,hq⟩
     ·exact h5.2.1 (e2.symm.trans e)
     ·rw[e2] at e
      injection e with e
      rw[size_alloc1] at hq
      omega⟩
    replace h1:w3.ownsRow w.heap.size 114 5 v' (k+1) (rws (fun i=>if i=k then rdv no wt k1 k2 k3 a1 a2 a3 else rows i) (k+1)):=by rw[←hrw2];exact h1
    replace hI3:=hide hI3;clear A8 hrw2;obtain⟨no',co',hv'⟩:=own_slice h1;subst hv';clear h2 h3 hO3 hnc hone A4 A5 A6
    go_wp2_with (fail)
    refine⟨⟨k+1,_,_,by omega,by go_num,hB3,h1,hI3.out⟩,?_⟩
    simp[intOf];omega
   ·have hd:decide ((k:Int)<(ts.length:Int))=false:=by simp;omega
    clear h hs ih
    go_wp2_with (fail)
    go_ret
    obtain rfl:k=ts.length:=by omega
    exact⟨_,rfl,⟨_,_,_,rfl⟩,hb,RdL.of hl hI hO⟩
end Go.Proofs.YtmmlkfkpblokiaaGreatDoor
namespace Go.Proofs.YtmmlkfkpblokiaaGreatDoor
set_option maxRecDepth 100000
open Go Go.RowKit Go.Sort
attribute [local go_sem] setCell_drewN alloc_drewN
structure Flt3 where
 line:Int
 at_:Int
 why:Int
def frw (f:Flt3):Array Value:=#[.int .i64 f.line,.int .i64 f.at_,.int .i64 f.why]
def Gup (base:Nat) (f:Option Flt3) (e:Ending) (w':World) (P:Value→Prop):Prop:=
 match f with
 |none=>∃v,e=.returned v∧P v
 |some x=>∃g,e=.panicked [{v:=.iface 70 (.pointer (some ⟨g,0,none⟩)),recovered:=false}]∧base≤g∧w'.heap[g]? =some (.cells (frw x) 41 (0,0))
set_option maxRecDepth 100000 in
set_option maxHeartbeats 4000000 in
theorem a_giveUp (l a y:Int) (w:World):Calls Tryz.prog 51 #[.int .i64 l,.int .i64 a,.int .i64 y] w fun e w'=>Gup w.heap.size (some ⟨l,a,y⟩) e w' (fun _=>True)∧Below w.heap.size w w':=by
 have r0:=hp1_0 w (.cells #[.int .i64 l,.int .i64 a,.int .i64 y] 41);have hb:Below w.heap.size w (w.alloc (.cells #[.int .i64 l,.int .i64 a,.int .i64 y] 41)):=(Below.refl _ _).alloc (Nat.le_refl _) _
 go_enter Tryz.func51,Tryz.ntmps51
 go_wp2
 exact⟨rfl,⟨_,rfl,Nat.le_refl _,r0⟩,hb⟩
def wth (n l m:Int):Int:=if n<l∨m<n then 83 else 0
set_option maxRecDepth 100000 in
set_option maxHeartbeats 4000000 in
theorem a_within (n l m:Int):Gives 91 #[.int .u64 n,.int .u64 l,.int .u64 m] (.int .i64 (wth n l m)):=by
 intro w
 go_enter Tryz.func91,Tryz.ntmps91
 rcases Int.lt_or_le n l with q|q
 ·have e:wth n l m=83:=by unfold wth;rw[if_pos (.inl q)]
  have hd:decide (n<l)=true:=by simpa using q
  rw[e]
  go_wp2
  go_ret;exact⟨rfl,Below.refl _ _⟩
 ·have hd:decide (n<l)=false:=by simpa using q
  rcases Int.lt_or_le m n with q2|q2
  ·have e:wth n l m=83:=by unfold wth;rw[if_pos (.inr q2)]
   have hd2:decide (n>m)=true:=by simpa using q2
   rw[e]
   go_wp2
   go_ret;exact⟨rfl,Below.refl _ _⟩
  ·have e:wth n l m=0:=by unfold wth;rw[if_neg (by omega)]
   have hd2:decide (n>m)=false:=by simpa using q2
   rw[e]
   go_wp2
   go_ret;exact⟨rfl,Below.refl _ _⟩
def vrw (n:Nat) (dv pv:Value):Array Value:=#[.int .u64 (n:Int),dv,pv]
set_option maxRecDepth 100000 in
set_option maxHeartbeats 4000000 in
theorem a_fitNum (n:Nat) (da:Option Addr) (dl dc:Nat) (pa:Option Addr) (pl pc:Nat) (wt l m:Int) (g:Nat) (w:World) (hg:Bx w g #[.int .i64 wt,.int .u64 l,.int .u64 m]):Calls Tryz.prog 90 #[.agg (vrw n (.slice da dl dc) (.slice pa pl pc)),.pointer (some ⟨g,0,none⟩)] w fun e w'=>e=.returned (.int .i64 (wth (n:Int) l m))∧Below w.heap.size w w':=by
 obtain⟨T,hg⟩:=hg;have hlt:=lt_of_row hg
 have hne:¬w.heap.size=g:=by omega
 have hne2:¬g=w.heap.size:=by omega
 have c1:w.cell? ⟨g,1,none⟩=some (.int .u64 l):=by rw[cell_of_row _ _ _ _ _ _ hg];rfl
 have c2:w.cell? ⟨g,2,none⟩=some (.int .u64 m):=by rw[cell_of_row _ _ _ _ _ _ hg];rfl
 have cW:=a_within (n:Int) l m
 have hb:∀o,Below w.heap.size w (w.alloc o):=fun o=>(Below.refl _ _).alloc (Nat.le_refl _) _
 unfold vrw
 go_enter Tryz.func90,Tryz.ntmps90
 go_wp2_with (fail)
 refine(cW.at _).mono ?_;rintro e_ w1 ⟨rfl,hb1⟩;replace hb1:=Below.after (hb _) hb1
 go_wp2
 go_ret;exact⟨rfl,hb1⟩
theorem infoOct:(Tryz.prog.info? 186).map (·.size)=some 3:=by kernel_rfl
set_option maxRecDepth 100000 in
set_option maxHeartbeats 4000000 in
theorem a_octets (da:Option Addr) (dl dc:Nat) (l m:Int) (hdl:dl<9223372036854775808) (w:World):Calls Tryz.prog 95 #[.agg #[.int .u64 l,.int .u64 m,.bool false],.slice da dl dc] w fun e w'=>e=.returned (.int .i64 (wth (dl:Int) l m))∧Below w.heap.size w w':=by
 have cW:=a_within (dl:Int) l m
 have hb:∀o,Below w.heap.size w (w.alloc o):=fun o=>(Below.refl _ _).alloc (Nat.le_refl _) _
 go_enter Tryz.func95,Tryz.ntmps95
 go_wp2_with (fail)
 refine(cW.at _).mono ?_;rintro e_ w1 ⟨rfl,hb1⟩;have r0:=keep hb1 (hp1_0 w (.cells #[.int .u64 l,.int .u64 m,.bool false] 186))
 have c2:w1.cell? ⟨w.heap.size,2,none⟩=some (.bool false):=by rw[cell_of_row _ _ _ _ _ _ r0];rfl
 replace hb1:=Below.after (hb _) hb1
 rcases hz:(wth (dl:Int) l m==0)
 ·have hz2:¬wth (dl:Int) l m=0:=by simpa using hz
  clear r0 cW
  go_wp2
  go_ret;exact⟨rfl,hb1⟩
 ·have hz2:wth (dl:Int) l m=0:=by simpa using hz
  rw[hz2]
  replace hz2:=hide hz2;clear r0 cW hz
  go_wp2
  go_ret
  exact⟨by rw[hz2.out];rfl,hb1⟩
set_option maxRecDepth 100000 in
set_option maxHeartbeats 4000000 in
theorem a_fitOct (n:Nat) (da:Option Addr) (dl dc:Nat) (pa:Option Addr) (pl pc:Nat) (l m:Int) (hdl:dl<9223372036854775808) (g:Nat) (w:World) (hg:Bx w g #[.int .u64 l,.int .u64 m,.bool false]):Calls Tryz.prog 94 #[.agg (vrw n (.slice da dl dc) (.slice pa pl pc)),.pointer (some ⟨g,0,none⟩)] w fun e w'=>e=.returned (.int .i64 (wth (dl:Int) l m))∧Below w.heap.size w w':=by
 obtain⟨T,hg⟩:=hg;have hlt:=lt_of_row hg
 have hb:∀o,Below w.heap.size w (w.alloc o):=fun o=>(Below.refl _ _).alloc (Nat.le_refl _) _
 have cO:=a_octets da dl dc l m hdl
 have hg2:=fun o=>keep (hb o) hg
 unfold vrw
 go_enter Tryz.func94,Tryz.ntmps94
 go_wp2_with (first|(refine wpList_load_want rfl 186 _ rfl g rfl T #[.int .u64 l,.int .u64 m,.bool false] (0,0) _ (hg2 _) Tryz.underlying186 rfl infoOct ?_)|fail)
 refine(cO _).mono ?_;rintro e_ w1 ⟨rfl,hb1⟩;replace hb1:=Below.after (hb _) hb1;clear cO hg2 hg
 go_wp2
 go_ret;exact⟨rfl,hb1⟩
end Go.Proofs.YtmmlkfkpblokiaaGreatDoor
namespace Go.Proofs.YtmmlkfkpblokiaaGreatDoor
set_option maxRecDepth 100000
open Go Go.RowKit Go.Sort
attribute [local go_sem] setCell_drewN alloc_drewN
theorem infoV:(Tryz.prog.info? 27).map (·.size)=some 3:=by kernel_rfl
def pbad (b:Bool) (n dl pl:Nat):Bool:=decide (0<pl)||(b&&decide (n≠0))||(!b&&decide (0<dl))
end Go.Proofs.YtmmlkfkpblokiaaGreatDoor
namespace Go.Proofs.YtmmlkfkpblokiaaGreatDoor
set_option maxRecDepth 100000
open Go Go.RowKit Go.Sort
attribute [local go_sem] setCell_drewN alloc_drewN
theorem hmf:∀(fn:Fn) (first cap:Array Value) (w:World),(Instr.makeFunc fn first cap).run Tryz.prog w=.ok (.func fn first cap) w:=fun _ _ _ _=>rfl
theorem eql_nils (W:World):(binOp .eql 20 .nilIface .nilIface).run Tryz.prog W=.ok (.bool true) W:=by kernel_rfl
theorem eql_fault (v:Value) (W:World):(binOp .eql 20 (.iface 70 v) .nilIface).run Tryz.prog W=.ok (.bool false) W:=by kernel_rfl
theorem ta_fault (v:Value) (W:World):(Instr.typeAssert (.iface 70 v) 20 70 true).run Tryz.prog W=.ok (.tuple #[v,.bool true]) W:=by kernel_rfl
set_option maxRecDepth 100000 in
theorem catch_idle (p:Addr) (w:World):CallsD Tryz.prog 50 #[.pointer (some p)] .returning w fun e u' w'=>e=.returned (.tuple #[])∧u'=.returning∧w'=w:=by
 refine callsD_of_wpS Tryz.func50 rfl fun c₀ cs hu=>?_
 apply wpS_seq
 apply wpS_region
 simp[wpOpsS,go_sem,recoverD,hu,Tryz.ntmps50,Exit.thenS,Array.replicate]
 refine wpS_of_wp ?_;have h1:=eql_nils
 go_wp2
 cases c₀
 simp_all [bodyPostS,results,Tryz.results50]
set_option maxRecDepth 100000 in
theorem catch_panicking (p:Addr) (old:Value) (g:Nat) (older:List PanicEntry) (w:World) (hc:w.cell? p=some old) (hz:w.frozen? p=false):
 CallsD Tryz.prog 50 #[.pointer (some p)] (.panicking ({v:=.iface 70 (.pointer (some ⟨g,0,none⟩)),recovered:=false}::older)) w fun e u' w'=>
  e=.returned (.tuple #[])∧u'=.panicking ({v:=.iface 70 (.pointer (some ⟨g,0,none⟩)),recovered:=true}::older)∧w'=w.setCell p (.iface 70 (.pointer (some ⟨g,0,none⟩))):=by
 refine callsD_of_wpS Tryz.func50 rfl fun c₀ cs hu=>?_
 apply wpS_seq
 apply wpS_region
 simp[wpOpsS,go_sem,recoverD,hu,Tryz.ntmps50,Exit.thenS,Array.replicate]
 refine wpS_of_wp ?_;have h1:=eql_fault (.pointer (some ⟨g,0,none⟩));have h2:=ta_fault (.pointer (some ⟨g,0,none⟩))
 go_wp2
 cases c₀
 simp_all [bodyPostS,results,Tryz.results50]
end Go.Proofs.YtmmlkfkpblokiaaGreatDoor
namespace Go.Proofs.YtmmlkfkpblokiaaGreatDoor
set_option maxRecDepth 100000
open Go Go.RowKit Go.Sort
attribute [local go_sem] setCell_drewN alloc_drewN
theorem run_call_val {P:Program} {o:Oper} {ρ:Operand→Value} {w:World} {f:FuncId} {caps:Array Value} (x:Operand) (ys:Array Operand) (ats:Array TypeId) (ho:o.op=.call {callee:=.value x,args:=ys,argTypes:=ats}) (hx:ρ x=.func (.func f) #[] caps) (args:Array Value) (hys:ys.map ρ=args) (hent:∀args W,(callFunc f args).run P W=.ok (.enter f args) W):(execOp ρ o).run P w=.ok (.enter f (args++caps)) w:=by
 unfold execOp;simp only[ho,resolve,hx,hys,Deferred.ofValue,invoke,Sem.run_bind,Sem.run_pure,Result.andThen_ok,hent,Array.empty_append]
structure VR where
 num:Nat
 da:Option Addr
 dl:Nat
 dc:Nat
 pa:Option Addr
 pl:Nat
 pc:Nat
def vrv (x:VR):Array Value:=vrw x.num (.slice x.da x.dl x.dc) (.slice x.pa x.pl x.pc)
def vr0:VR:=⟨0,none,0,0,none,0,0⟩
def gx (xs:List VR) (i:Nat):VR:=xs.getD i vr0
def Prt (W:World) (v:Value) (xs:List VR):Prop:=∃ao cap,v=.slice ao xs.length cap∧xs.length≤cap∧(∀i,i<xs.length→(gx xs i).num<18446744073709551616∧(gx xs i).dl<9223372036854775808)∧∀i,i<xs.length→∃b off,ao=some ⟨b,off,none⟩∧b<W.heap.size∧W.rangeAt b (off+i*3) (vrv (gx xs i)).toList
theorem Prt.keep {W V:World} {v:Value} {xs:List VR} (h:Prt W v xs) (hb:Below W.heap.size W V):Prt V v xs:=by
 obtain⟨ao,cap,e,hc,hn,h⟩:=h
 refine⟨ao,cap,e,hc,hn,fun i hi=>?_⟩
 obtain⟨b,off,h1,h2,h3⟩:=h i hi;exact⟨b,off,h1,Nat.lt_of_lt_of_le h2 hb.size,rangeS_keep2 h3 hb h2⟩
end Go.Proofs.YtmmlkfkpblokiaaGreatDoor
namespace Go.Proofs.YtmmlkfkpblokiaaGreatDoor
set_option maxRecDepth 100000
open Go Go.RowKit Go.Sort
attribute [local go_sem] setCell_drewN alloc_drewN
theorem infoSt':(Tryz.prog.info? 114).map (·.size)=some 5:=by kernel_rfl
end Go.Proofs.YtmmlkfkpblokiaaGreatDoor
namespace Go.Proofs.YtmmlkfkpblokiaaGreatDoor
set_option maxRecDepth 100000
open Go Go.RowKit Go.Sort
attribute [local go_sem] setCell_drewN alloc_drewN
def Cdc (W:World) (g:Nat) (ts:List Slt):Prop:=∃x,RdL W (fun _=>True) x ts∧W.heap[g]? =some (.cells #[x,.int .i64 ((prS ts).1:Int),.int .i64 ((prS ts).2:Int)] 77 (0,0))
theorem Cdc.keep {W V:World} {g:Nat} {ts:List Slt} (h:Cdc W g ts) (hb:Below W.heap.size W V):Cdc V g ts:=by
 obtain⟨x,h1,h2⟩:=h;exact⟨x,h1.keep (Sty.below hb),(hb.block g (lt_of_row h2)).trans h2⟩
end Go.Proofs.YtmmlkfkpblokiaaGreatDoor
namespace Go.Proofs.YtmmlkfkpblokiaaGreatDoor
set_option maxRecDepth 100000
open Go Go.RowKit Go.Sort
attribute [local go_sem] setCell_drewN alloc_drewN
theorem range_row {W:World} {g:Nat} {c:Array Value} (h:Bx W g c):W.rangeAt g 0 c.toList:=fun j v hv=>by
 obtain⟨T,h⟩:=h;rw[Nat.zero_add,cell_of_row _ _ _ _ _ _ h]
 simpa using hv
end Go.Proofs.YtmmlkfkpblokiaaGreatDoor
namespace Go.Proofs.YtmmlkfkpblokiaaGreatDoor
set_option maxRecDepth 100000
open Go Go.RowKit Go.Sort
attribute [local go_sem] setCell_drewN alloc_drewN
def fagg (f:Fd) (u:Value):Value:=.agg #[.int .i64 f.no,.int .i64 f.ty,.int .u64 (f.num:Int),u]
set_option maxHeartbeats 2000000 in
theorem a_checkHead (f:Fd) (u:Value) (last:Int):Gives 101 #[fagg f u,.int .i64 last] (.int .i64 (hck f last)):=by
 intro w;unfold fagg hck
 by_cases h1:f.no≤last
 ·have d1:decide (f.no≤last)=true:=decide_eq_true h1
  rw[if_pos (.inl h1)]
  have R0:=hp1_0 w (.cells #[.int .i64 f.no,.int .i64 f.ty,.int .u64 (f.num:Int),u] 118);have hw:Below w.heap.size w (w.alloc (.cells #[.int .i64 f.no,.int .i64 f.ty,.int .u64 (f.num:Int),u] 118)):=(Below.refl _ _).alloc (Nat.le_refl _) _;have c0:(w.alloc (.cells #[.int .i64 f.no,.int .i64 f.ty,.int .u64 (f.num:Int),u] 118)).cell? ⟨w.heap.size,0,none⟩=some (.int .i64 f.no):=cell_of_row _ _ _ _ _ _ R0;have c1:(w.alloc (.cells #[.int .i64 f.no,.int .i64 f.ty,.int .u64 (f.num:Int),u] 118)).cell? ⟨w.heap.size,1,none⟩=some (.int .i64 f.ty):=cell_of_row _ _ _ _ _ _ R0;have c2:(w.alloc (.cells #[.int .i64 f.no,.int .i64 f.ty,.int .u64 (f.num:Int),u] 118)).cell? ⟨w.heap.size,2,none⟩=some (.int .u64 (f.num:Int)):=cell_of_row _ _ _ _ _ _ R0;have c3:(w.alloc (.cells #[.int .i64 f.no,.int .i64 f.ty,.int .u64 (f.num:Int),u] 118)).cell? ⟨w.heap.size,3,none⟩=some (u):=cell_of_row _ _ _ _ _ _ R0
  go_enter Tryz.func101,Tryz.ntmps101
  clear R0
  go_wp2_with (fail)
  go_ret;exact⟨rfl,hw⟩
 have d1:decide (f.no≤last)=false:=decide_eq_false h1
 by_cases h2:536870911<f.no
 ·have d2:decide (f.no>536870911)=true:=decide_eq_true h2
  rw[if_pos (.inr h2)]
  have R0:=hp1_0 w (.cells #[.int .i64 f.no,.int .i64 f.ty,.int .u64 (f.num:Int),u] 118);have hw:Below w.heap.size w (w.alloc (.cells #[.int .i64 f.no,.int .i64 f.ty,.int .u64 (f.num:Int),u] 118)):=(Below.refl _ _).alloc (Nat.le_refl _) _;have c0:(w.alloc (.cells #[.int .i64 f.no,.int .i64 f.ty,.int .u64 (f.num:Int),u] 118)).cell? ⟨w.heap.size,0,none⟩=some (.int .i64 f.no):=cell_of_row _ _ _ _ _ _ R0;have c1:(w.alloc (.cells #[.int .i64 f.no,.int .i64 f.ty,.int .u64 (f.num:Int),u] 118)).cell? ⟨w.heap.size,1,none⟩=some (.int .i64 f.ty):=cell_of_row _ _ _ _ _ _ R0;have c2:(w.alloc (.cells #[.int .i64 f.no,.int .i64 f.ty,.int .u64 (f.num:Int),u] 118)).cell? ⟨w.heap.size,2,none⟩=some (.int .u64 (f.num:Int)):=cell_of_row _ _ _ _ _ _ R0;have c3:(w.alloc (.cells #[.int .i64 f.no,.int .i64 f.ty,.int .u64 (f.num:Int),u] 118)).cell? ⟨w.heap.size,3,none⟩=some (u):=cell_of_row _ _ _ _ _ _ R0
  go_enter Tryz.func101,Tryz.ntmps101
  clear R0
  go_wp2_with (fail)
  go_ret;exact⟨rfl,hw⟩
 have d2:decide (f.no>536870911)=false:=decide_eq_false h2
 rw[if_neg (by omega)]
 by_cases t0:f.ty=0
 ·rw[t0,if_pos (show known 0 from .inl rfl)]
  have R0:=hp1_0 w (.cells #[.int .i64 f.no,.int .i64 0,.int .u64 (f.num:Int),u] 118)
  have hw:Below w.heap.size w (w.alloc (.cells #[.int .i64 f.no,.int .i64 0,.int .u64 (f.num:Int),u] 118)):=(Below.refl _ _).alloc (Nat.le_refl _) _;have c0:(w.alloc (.cells #[.int .i64 f.no,.int .i64 0,.int .u64 (f.num:Int),u] 118)).cell? ⟨w.heap.size,0,none⟩=some (.int .i64 f.no):=cell_of_row _ _ _ _ _ _ R0;have c1:(w.alloc (.cells #[.int .i64 f.no,.int .i64 0,.int .u64 (f.num:Int),u] 118)).cell? ⟨w.heap.size,1,none⟩=some (.int .i64 0):=cell_of_row _ _ _ _ _ _ R0;have c2:(w.alloc (.cells #[.int .i64 f.no,.int .i64 0,.int .u64 (f.num:Int),u] 118)).cell? ⟨w.heap.size,2,none⟩=some (.int .u64 (f.num:Int)):=cell_of_row _ _ _ _ _ _ R0;have c3:(w.alloc (.cells #[.int .i64 f.no,.int .i64 0,.int .u64 (f.num:Int),u] 118)).cell? ⟨w.heap.size,3,none⟩=some (u):=cell_of_row _ _ _ _ _ _ R0
  go_enter Tryz.func101,Tryz.ntmps101
  clear R0 h1 h2
  go_wp2_with (fail)
  go_ret;exact⟨rfl,hw⟩
 by_cases t1:f.ty=1
 ·rw[t1,if_pos (show known 1 from .inr (.inl rfl))]
  have R0:=hp1_0 w (.cells #[.int .i64 f.no,.int .i64 1,.int .u64 (f.num:Int),u] 118)
  have hw:Below w.heap.size w (w.alloc (.cells #[.int .i64 f.no,.int .i64 1,.int .u64 (f.num:Int),u] 118)):=(Below.refl _ _).alloc (Nat.le_refl _) _;have c0:(w.alloc (.cells #[.int .i64 f.no,.int .i64 1,.int .u64 (f.num:Int),u] 118)).cell? ⟨w.heap.size,0,none⟩=some (.int .i64 f.no):=cell_of_row _ _ _ _ _ _ R0;have c1:(w.alloc (.cells #[.int .i64 f.no,.int .i64 1,.int .u64 (f.num:Int),u] 118)).cell? ⟨w.heap.size,1,none⟩=some (.int .i64 1):=cell_of_row _ _ _ _ _ _ R0;have c2:(w.alloc (.cells #[.int .i64 f.no,.int .i64 1,.int .u64 (f.num:Int),u] 118)).cell? ⟨w.heap.size,2,none⟩=some (.int .u64 (f.num:Int)):=cell_of_row _ _ _ _ _ _ R0;have c3:(w.alloc (.cells #[.int .i64 f.no,.int .i64 1,.int .u64 (f.num:Int),u] 118)).cell? ⟨w.heap.size,3,none⟩=some (u):=cell_of_row _ _ _ _ _ _ R0
  go_enter Tryz.func101,Tryz.ntmps101
  clear R0 h1 h2
  go_wp2_with (fail)
  go_ret;exact⟨rfl,hw⟩
 by_cases t2:f.ty=2
 ·rw[t2,if_pos (show known 2 from .inr (.inr (.inl rfl)))]
  have R0:=hp1_0 w (.cells #[.int .i64 f.no,.int .i64 2,.int .u64 (f.num:Int),u] 118)
  have hw:Below w.heap.size w (w.alloc (.cells #[.int .i64 f.no,.int .i64 2,.int .u64 (f.num:Int),u] 118)):=(Below.refl _ _).alloc (Nat.le_refl _) _;have c0:(w.alloc (.cells #[.int .i64 f.no,.int .i64 2,.int .u64 (f.num:Int),u] 118)).cell? ⟨w.heap.size,0,none⟩=some (.int .i64 f.no):=cell_of_row _ _ _ _ _ _ R0;have c1:(w.alloc (.cells #[.int .i64 f.no,.int .i64 2,.int .u64 (f.num:Int),u] 118)).cell? ⟨w.heap.size,1,none⟩=some (.int .i64 2):=cell_of_row _ _ _ _ _ _ R0;have c2:(w.alloc (.cells #[.int .i64 f.no,.int .i64 2,.int .u64 (f.num:Int),u] 118)).cell? ⟨w.heap.size,2,none⟩=some (.int .u64 (f.num:Int)):=cell_of_row _ _ _ _ _ _ R0;have c3:(w.alloc (.cells #[.int .i64 f.no,.int .i64 2,.int .u64 (f.num:Int),u] 118)).cell? ⟨w.heap.size,3,none⟩=some (u):=cell_of_row _ _ _ _ _ _ R0
  go_enter Tryz.func101,Tryz.ntmps101
  clear R0 h1 h2
  go_wp2_with (fail)
  go_ret;exact⟨rfl,hw⟩
 by_cases t5:f.ty=5
 ·rw[t5,if_pos (show known 5 from .inr (.inr (.inr rfl)))]
  have R0:=hp1_0 w (.cells #[.int .i64 f.no,.int .i64 5,.int .u64 (f.num:Int),u] 118)
  have hw:Below w.heap.size w (w.alloc (.cells #[.int .i64 f.no,.int .i64 5,.int .u64 (f.num:Int),u] 118)):=(Below.refl _ _).alloc (Nat.le_refl _) _;have c0:(w.alloc (.cells #[.int .i64 f.no,.int .i64 5,.int .u64 (f.num:Int),u] 118)).cell? ⟨w.heap.size,0,none⟩=some (.int .i64 f.no):=cell_of_row _ _ _ _ _ _ R0;have c1:(w.alloc (.cells #[.int .i64 f.no,.int .i64 5,.int .u64 (f.num:Int),u] 118)).cell? ⟨w.heap.size,1,none⟩=some (.int .i64 5):=cell_of_row _ _ _ _ _ _ R0;have c2:(w.alloc (.cells #[.int .i64 f.no,.int .i64 5,.int .u64 (f.num:Int),u] 118)).cell? ⟨w.heap.size,2,none⟩=some (.int .u64 (f.num:Int)):=cell_of_row _ _ _ _ _ _ R0;have c3:(w.alloc (.cells #[.int .i64 f.no,.int .i64 5,.int .u64 (f.num:Int),u] 118)).cell? ⟨w.heap.size,3,none⟩=some (u):=cell_of_row _ _ _ _ _ _ R0
  go_enter Tryz.func101,Tryz.ntmps101
  clear R0 h1 h2
  go_wp2_with (fail)
  go_ret;exact⟨rfl,hw⟩
 have q0:(f.ty==0)=false:=by simpa using t0
 have q1:(f.ty==1)=false:=by simpa using t1
 have q2:(f.ty==2)=false:=by simpa using t2
 have q5:(f.ty==5)=false:=by simpa using t5
 rw[if_neg (show¬known f.ty by unfold known;omega)]
 clear t0 t1 t2 t5;have R0:=hp1_0 w (.cells #[.int .i64 f.no,.int .i64 f.ty,.int .u64 (f.num:Int),u] 118);have hw:Below w.heap.size w (w.alloc (.cells #[.int .i64 f.no,.int .i64 f.ty,.int .u64 (f.num:Int),u] 118)):=(Below.refl _ _).alloc (Nat.le_refl _) _;have c0:(w.alloc (.cells #[.int .i64 f.no,.int .i64 f.ty,.int .u64 (f.num:Int),u] 118)).cell? ⟨w.heap.size,0,none⟩=some (.int .i64 f.no):=cell_of_row _ _ _ _ _ _ R0;have c1:(w.alloc (.cells #[.int .i64 f.no,.int .i64 f.ty,.int .u64 (f.num:Int),u] 118)).cell? ⟨w.heap.size,1,none⟩=some (.int .i64 f.ty):=cell_of_row _ _ _ _ _ _ R0;have c2:(w.alloc (.cells #[.int .i64 f.no,.int .i64 f.ty,.int .u64 (f.num:Int),u] 118)).cell? ⟨w.heap.size,2,none⟩=some (.int .u64 (f.num:Int)):=cell_of_row _ _ _ _ _ _ R0;have c3:(w.alloc (.cells #[.int .i64 f.no,.int .i64 f.ty,.int .u64 (f.num:Int),u] 118)).cell? ⟨w.heap.size,3,none⟩=some (u):=cell_of_row _ _ _ _ _ _ R0
 go_enter Tryz.func101,Tryz.ntmps101
 clear R0 h1 h2
 go_wp2_with (fail)
 go_ret;exact⟨rfl,hw⟩
theorem Fok.hd {f:Fd} (h1:f.no≤536870911) (h2:f.ty<8):fhd f<18446744073709551616:=by unfold fhd;omega
end Go.Proofs.YtmmlkfkpblokiaaGreatDoor
namespace Go.Proofs.YtmmlkfkpblokiaaGreatDoor
set_option maxRecDepth 100000
open Go Go.RowKit Go.Sort
attribute [local go_sem] setCell_drewN alloc_drewN
end Go.Proofs.YtmmlkfkpblokiaaGreatDoor
namespace Go.Proofs.YtmmlkfkpblokiaaGreatDoor
set_option maxRecDepth 100000
open Go Go.RowKit Go.Sort
attribute [local go_sem] setCell_drewN alloc_drewN
set_option maxRecDepth 100000 in
theorem info48:∃i,Tryz.prog.info? 118=some i∧i.zero=some (.agg #[.int .i64 0,.int .i64 0,.int .u64 0,.slice none 0 0])∧i.size=4∧i.bytes=48:=⟨_,rfl,rfl,rfl,rfl⟩
def frs:List Fd→List Value→List Value
 |f::fs,u::us=>frow f u++frs fs us
 |_,_=>[]
theorem frs_snoc:∀(fs:List Fd) (us:List Value) (f:Fd) (u:Value),us.length=fs.length→frs (fs++[f]) (us++[u])=frs fs us++frow f u
 |[],[],f,u,_=>by simp[frs]
 |[],_::_,_,_,h=>by simp at h
 |_::_,[],_,_,h=>by simp at h
 |g::fs,v::us,f,u,h=>by
  rw[List.cons_append,List.cons_append,frs,frs,frs_snoc fs us f u (by simpa using h),List.append_assoc]
theorem frs_at:∀(fs:List Fd) (us:List Value) (i j:Nat),us.length=fs.length→i<fs.length→j<4→(frs fs us)[i*4+j]? =(frow (gf fs i) (gv us i))[j]?
 |[],_,i,_,_,h,_=>by simp at h
 |f::fs,[],_,_,h,_,_=>by simp at h
 |f::fs,u::us,0,j,h,_,hj=>by
  rw[frs,Nat.zero_mul,Nat.zero_add,List.getElem?_append_left (by show j<4;exact hj)]
  rfl
 |f::fs,u::us,i+1,j,h,hi,hj=>by
  rw[frs,List.getElem?_append_right (by show 4≤_;omega)]
  have:(i+1)*4+j-(frow f u).length=i*4+j:=by show _-4=_;omega
  rw[this,frs_at fs us i j (by simpa using h) (by simpa using hi) hj]
  rfl
def Fts (W:World) (base:Nat) (v:Value) (us:List Value) (fs:List Fd):Prop:=
 W.ownsRow base 118 4 v fs.length (frs fs us)∧us.length=fs.length∧(∀i,i<us.length→Own W base (gv us i) (gf fs i).dat)∧
 (∀i,i<us.length→∀k,(gv us i).ownBlock=some k→v.ownBlock≠some k)∧(∀i j,i<j→j<us.length→∀k,(gv us i).ownBlock=some k→(gv us j).ownBlock≠some k)
theorem Fts.keep {W V:World} {b:Nat} {v:Value} {us:List Value} {fs:List Fd} (h:Fts W b v us fs) (hb:Below W.heap.size W V):Fts V b v us fs:=
 ⟨own_keep_row h.1 hb,h.2.1,fun i hi=>(h.2.2.1 i hi).keep hb,h.2.2.2⟩
theorem fts_nil (W:World) (b:Nat):Fts W b (.slice none 0 0) [] []:=⟨⟨rfl,.inl ⟨rfl,rfl⟩⟩,rfl,fun i hi=>by simp at hi,fun i hi=>by simp at hi,fun i j _ hj=>by simp at hj⟩
theorem fts_empty (W:World):Fts (W.alloc (.cells #[] 118)) W.heap.size (.slice (some ⟨W.heap.size,0,none⟩) 0 0) [] []:=
 ⟨⟨rfl,.inr ⟨W.heap.size,0,#[],rfl,Nat.le_refl _,hp1_0 _ _,Nat.le_refl _,by decide,rfl,rfl⟩⟩,rfl,fun i hi=>by simp at hi,fun i hi=>by simp at hi,fun i j _ hj=>by simp at hj⟩
theorem gf_app_lo {fs:List Fd} {f:Fd} {i:Nat} (h:i<fs.length):gf (fs++[f]) i=gf fs i:=by
 rw[gf,gf,List.getD_eq_getElem?_getD,List.getElem?_append_left h,←List.getD_eq_getElem?_getD]
theorem gf_app_hi {fs:List Fd} {f:Fd}:gf (fs++[f]) fs.length=f:=by
 rw[gf,List.getD_eq_getElem?_getD,List.getElem?_append_right (Nat.le_refl _),Nat.sub_self];rfl
theorem Fts.high {W:World} {b:Nat} {v:Value} {us:List Value} {fs:List Fd} (h:Fts W b v us fs):(∀k,v.ownBlock=some k→k<W.heap.size)∧∀i,i<us.length→∀k,(gv us i).ownBlock=some k→k<W.heap.size:=
 ⟨fun k e=>(own_high_row h.1 k e).2,fun i hi k e=>own_high (h.2.2.1 i hi) k e⟩
theorem Fts.snoc {W W':World} {b L:Nat} {v v':Value} {us:List Value} {fs:List Fd} {u:Value} {f:Fd} (h:Fts W b v us fs) (hL:∀k,v.ownBlock=some k→k<L) (hLi:∀i,i<us.length→∀k,(gv us i).ownBlock=some k→k<L) (hbL:b≤L)
 (hu:Own W L u f.dat) (ho:W'.ownsRow b 118 4 v' (fs.length+1) (frs fs us++frow f u)) (hg:W.grownBy W' v.ownBlock) (hk:Nx W v v'):Fts W' b v' (us++[u]) (fs++[f]):=by
 obtain⟨h1,h2,h3,h4,h5⟩:=h;have hu2:Own W' L u f.dat:=hu.grown2 hg hL
 have hlu:∀k,u.ownBlock=some k→L≤k∧k<W.heap.size:=fun k e=>⟨own_low hu k e,own_high hu k e⟩
 refine⟨by rw[List.length_append,List.length_singleton,frs_snoc fs us f u h2];exact ho,by rw[List.length_append,List.length_append,h2];rfl,fun i hi=>?_,fun i hi k e=>?_,fun i j hij hj k e=>?_⟩
 ·rw[List.length_append,List.length_singleton] at hi
  rcases Nat.lt_or_ge i us.length with q|q
  ·rw[gv_app_lo q,gf_app_lo (by omega)]
   have ho3:=h3 i q
   obtain⟨q1,q2|⟨g,cap,cur,q2,hb2,hr,q3⟩⟩:=ho3
   ·exact⟨q1,.inl q2⟩
   ·refine⟨q1,.inr ⟨g,cap,cur,q2,hb2,(hg.block g (lt_of_row hr) (fun e=>?_)).trans hr,q3⟩⟩
    exact h4 i q g (by rw[q2];rfl) e.symm
  ·obtain rfl:i=us.length:=by omega
   rw[gv_app_hi,h2,gf_app_hi]
   obtain⟨q1,q2|⟨g,cap,cur,q2,hb2,hr⟩⟩:=hu2
   ·exact⟨q1,.inl q2⟩
   ·exact⟨q1,.inr ⟨g,cap,cur,q2,by omega,hr⟩⟩
 ·rw[List.length_append,List.length_singleton] at hi
  intro e2
  rcases hk with hk1|⟨k',hk1,hk2⟩
  ·rw[hk1] at e2
   rcases Nat.lt_or_ge i us.length with q|q
   ·rw[gv_app_lo q] at e
    exact h4 i q k e e2
   ·obtain rfl:i=us.length:=by omega
    rw[gv_app_hi] at e
    have:=hL k e2;have:=(hlu k e).1;omega
  ·rw[hk1] at e2
   cases e2
   rcases Nat.lt_or_ge i us.length with q|q
   ·rw[gv_app_lo q] at e
    have:=own_high (h3 i q) _ e
    omega
   ·obtain rfl:i=us.length:=by omega
    rw[gv_app_hi] at e
    have:=(hlu _ e).2;omega
 ·rw[List.length_append,List.length_singleton] at hj
  rcases Nat.lt_or_ge j us.length with q|q
  ·rw[gv_app_lo (by omega)] at e
   rw[gv_app_lo q]
   exact h5 i j hij q k e
  ·obtain rfl:j=us.length:=by omega
   rw[gv_app_lo hij] at e
   rw[gv_app_hi];intro e2;have:=hLi i hij k e;have:=(hlu k e2).1;omega
theorem new_cells4 (wr:World) (cs:Array Value) (t:TypeId):∀j x,cs.toList[j]? =some x→(wr.alloc (.cells cs t)).cell? ((⟨wr.heap.size,0,none⟩:Addr).add j)=some x:=by
 intro j x hx;rw[addr_add,cell_of_row _ _ _ _ _ _ (hp1_0 wr (.cells cs t)),Nat.zero_add]
 simpa using hx
theorem wpList_append_F {w:World} {ops:Array Oper} {rest:List Oper} {o:Oper} {a:Act} {Q:Exit→Act→World→Prop} (hgd:o.guard=none) (s x:Operand)
 (ho:o.op=.call {callee:=.builtin .append,args:=#[s,x],argTypes:=#[116,116]})
 (base:Nat) (v:Value) (us:List Value) (fs:List Fd) (hs:a.eval s=v) (L:Nat) (hI:Fts w base v us fs) (hL:∀k,v.ownBlock=some k→k<L) (hLi:∀i,i<us.length→∀k,(gv us i).ownBlock=some k→k<L) (hbL:base≤L)
 (u:Value) (f:Fd) (hu:Own w L u f.dat) (g:Nat) (hx:a.eval x=.slice (some ⟨g,0,none⟩) 1 1) (hnews:∀j x,(frow f u)[j]? =some x→w.cell? ((⟨g,0,none⟩:Addr).add j)=some x)
 (hlen:fs.length<2932031007317) (hbase:base≤w.heap.size)
 (h:∀v' w',Fts w' base v' (us++[u]) (fs++[f])→w.grownBy w' v.ownBlock→Nx w v v'→wpList Tryz.prog ops Q rest (a.put o.dst v') w'):wpList Tryz.prog ops Q (o::rest) a w:=by
 obtain⟨i0,hi,hz0,hz1,hz2⟩:=info48
 refine wpList_plain hgd fun _ hK=>wp_append_nx s x 116 ho base 118 i0 (.agg #[.int .i64 0,.int .i64 0,.int .u64 0,.slice none 0 0]) 4 48 Tryz.underlying116 hi hz0 hz1 hz2 rfl (by decide) v fs.length (frs fs us) hs hI.1 ⟨g,0,none⟩ 1 1 (frow f u) hx rfl hnews (fun x hx=>?_) (by unfold maxLen;omega) (by omega) hbase (fun v' w' h1 h2 h3=>hK _ _ (h v' w' (hI.snoc hL hLi hbL hu h1 h2 h3) h2 h3))
 obtain⟨ao,cap,rfl⟩:=slen_own hu
 simp[frow] at hx
 rcases hx with rfl|rfl|rfl|rfl<;>rfl
end Go.Proofs.YtmmlkfkpblokiaaGreatDoor
namespace Go.Proofs.YtmmlkfkpblokiaaGreatDoor
set_option maxRecDepth 100000
open Go Go.RowKit Go.Sort
attribute [local go_sem] setCell_drewN alloc_drewN
theorem infoFi:(Tryz.prog.info? 118).map (·.size)=some 4:=by kernel_rfl
end Go.Proofs.YtmmlkfkpblokiaaGreatDoor
namespace Go.Proofs.YtmmlkfkpblokiaaGreatDoor
set_option maxRecDepth 100000
open Go Go.RowKit Go.Sort
attribute [local go_sem] setCell_drewN alloc_drewN
theorem wp_val_op {P:Program} {o:Oper} {a:Act} {w w':World} {K:Act→World→Prop} {Q:Exit→Act→World→Prop} (v:Value) (hx:(execOp a.eval o).run P w=.ok (.value v) w') (h:K (a.put o.dst v) w'):o.wp P a w K Q:=by
 unfold Oper.wp;rw[hx,Oper.upon_value];exact h
end Go.Proofs.YtmmlkfkpblokiaaGreatDoor
namespace Go.Proofs.YtmmlkfkpblokiaaGreatDoor
set_option maxRecDepth 100000
open Go Go.RowKit Go.Sort
attribute [local go_sem] setCell_drewN alloc_drewN
end Go.Proofs.YtmmlkfkpblokiaaGreatDoor
namespace Go.Proofs.YtmmlkfkpblokiaaGreatDoor
set_option maxRecDepth 100000
open Go Go.RowKit Go.Sort
attribute [local go_sem] setCell_drewN alloc_drewN
inductive RI where
 |er (e:Int)
 |ok (p:List B) (n:Nat)
def ri (l:List B):RI:=match rd 0 l with
 | .er e=>.er e
 | .ok v n=>if l.length-n<v then .er 73 else .ok ((l.drop n).take v) (n+v)
inductive RS where
 |er (e:Int) (p:Nat)
 |ok (ps:List (List B))
def RS.cons (p:List B):RS→RS
 | .er e q=>.er e q
 | .ok l=>.ok (p::l)
def spl:Nat→Nat→Nat→List B→RS
 |0,_,_,_=>.ok []
 |f+1,p,c,l=>if l=[] then .ok [] else if c=4096 then .er 2 p else match ri l with
  | .er e=>.er e p
  | .ok x n=>(spl f (p+n) (c+1) (l.drop n)).cons x
theorem ri_ok {l p:List B} {n:Nat} (h:ri l=.ok p n):0<n∧n≤l.length∧n=(itm p).length∧l=itm p++l.drop n∧p.length≤l.length:=by
 unfold ri at h
 cases hr:rd 0 l with
 |er e=>rw[hr] at h;cases h
 |ok v m=>
  rw[hr] at h;obtain⟨⟨r,h1⟩,h2,h3⟩:=rd0_ok hr;have hl:=rd0_len hr;simp only at h
  split at h
  ·cases h
  ·rename_i hv
   injection h with e1 e2
   have hd:l.drop m=r:=by rw[h1,h2,List.drop_left]
   have hrl:v≤r.length:=by rw[←hd,List.length_drop];omega
   have hpl:p.length=v:=by rw[←e1,hd,List.length_take];omega
   have hit:itm p=en v++r.take v:=by rw[itm,hpl,←e1,hd]
   refine⟨by omega,by omega,?_,?_,by rw[hpl];omega⟩
   ·rw[hit,List.length_append,List.length_take];omega
   ·rw[hit,←e2,←List.drop_drop,hd,List.append_assoc,List.take_append_drop]
    exact h1
theorem ri_er {l:List B} {e:Int} (h:ri l=.er e):e=70∨e=73:=by
 unfold ri at h
 cases hr:rd 0 l with
 |er e'=>rw[hr] at h;injection h with h;subst h;exact rd_er _ _ _ hr
 |ok v m=>
  rw[hr] at h;simp only at h
  split at h
  ·injection h with h;exact .inr h.symm
  ·cases h
theorem spl_more:∀(f:Nat) (p c:Nat) (l:List B),l.length≤f→spl f p c l=spl l.length p c l
 |0,p,c,l,h=>by
  have:l.length=0:=by omega
  rw[this]
 |f+1,p,c,l,h=>by
  cases hl:l.length with
  |zero=>
   have:l=[]:=List.eq_nil_of_length_eq_zero hl;subst this
   simp[spl]
  |succ g=>
   have hne:l≠[]:=by intro e;rw[e] at hl;cases hl
   rw[spl,spl,if_neg hne,if_neg hne]
   by_cases hc:c=4096
   ·rw[if_pos hc,if_pos hc]
   ·rw[if_neg hc,if_neg hc]
    cases hr:ri l with
    |er e=>rfl
    |ok x n=>
     have h1:=ri_ok hr;simp only
     rw[spl_more f _ _ (l.drop n) (by rw[List.length_drop];omega),spl_more g _ _ (l.drop n) (by rw[List.length_drop];omega)]
def sp (l:List B):RS:=if 4194304<l.length then .er 2 0 else spl l.length 0 0 l
def RS.after (ps:List (List B)):RS→RS
 | .er e q=>.er e q
 | .ok l=>.ok (ps++l)
theorem after_cons (ps:List (List B)) (p:List B) (r:RS):(r.cons p).after ps=r.after (ps++[p]):=by
 cases r<;>simp[RS.cons,RS.after]
theorem spl_step {p c:Nat} {l:List B} (h0:l≠[]) (hc:c≠4096) {x:List B} {n:Nat} (hr:ri l=.ok x n):spl l.length p c l=(spl (l.drop n).length (p+n) (c+1) (l.drop n)).cons x:=by
 obtain⟨g,hg⟩:∃g,l.length=g+1:=⟨l.length-1,by have:l.length≠0:=fun e=>h0 (List.eq_nil_of_length_eq_zero e);omega⟩
 have h1:=ri_ok hr;rw[hg,spl,if_neg h0,if_neg hc,hr];simp only
 rw[spl_more g _ _ (l.drop n) (by rw[List.length_drop];omega)]
theorem spl_full {p:Nat} {l:List B} (h0:l≠[]):spl l.length p 4096 l=.er 2 p:=by
 obtain⟨g,hg⟩:∃g,l.length=g+1:=⟨l.length-1,by have:l.length≠0:=fun e=>h0 (List.eq_nil_of_length_eq_zero e);omega⟩
 rw[hg,spl,if_neg h0,if_pos rfl]
theorem spl_er {p c:Nat} {l:List B} (h0:l≠[]) (hc:c≠4096) {e:Int} (hr:ri l=.er e):spl l.length p c l=.er e p:=by
 obtain⟨g,hg⟩:∃g,l.length=g+1:=⟨l.length-1,by have:l.length≠0:=fun e=>h0 (List.eq_nil_of_length_eq_zero e);omega⟩
 rw[hg,spl,if_neg h0,if_neg hc,hr]
def rip (r:RI):List B:=match r with| .ok p _=>p| .er _=>[]
def rie (p:Nat) (r:RI):Int:=match r with| .ok _ n=>((p+n:Nat):Int)| .er _=>0
def rir (r:RI):Int:=match r with| .ok _ _=>0| .er e=>e
def spp (r:RS):List (List B):=match r with| .ok l=>l| .er _ _=>[]
def spa (r:RS):Int:=match r with| .ok _=>0| .er _ p=>(p:Int)
def spe (r:RS):Int:=match r with| .ok _=>0| .er e _=>e
theorem elem8:Tryz.prog.underlying 24=some (.slice (Tryz.prog.elem 24)):=by kernel_rfl
theorem size8 (W:World):(sizeOf (Tryz.prog.elem 24)).run Tryz.prog W=.ok 1 W:=by kernel_rfl
def slc (ao:Option Addr) (cap m n:Nat):Value:=.slice (if cap=m then ao else ao.map (·.add (m*1))) (n-m) (cap-m)
theorem sl_mid (ao:Option Addr) (len cap m n:Nat) (h1:m≤n) (h2:n≤cap) (W:World):(Instr.sliceAt 24 (.slice ao len cap) (some (.int .i64 (m:Int))) (some (.int .i64 (n:Int))) none).run Tryz.prog W=.ok (slc ao cap m n) W:=by
 rw[run_sliceAt_slice _ _ _ _ _ _ elem8,run_slice_lh W 24 ao len cap elem8 .i64 .i64 _ _ (by omega) (by omega) (by omega),size8]
 show Result.ok (sliced _ _ _ _ 1) W=_
 rw[Int.toNat_natCast,Int.toNat_natCast,sliced];rfl
theorem bysB_mid {W:World} {ao:Option Addr} {cap m n:Nat} {d:List B} (h:BysB W (.slice ao d.length cap) d) (hmn:m≤n) (hn:n≤d.length) (hc:d.length≤cap):BysB W (slc ao cap m n) ((d.drop m).take (n-m)):=by
 obtain⟨⟨ao',c',e,hl,hce,hz⟩,h2,h3⟩:=h;rw[bl_len] at e
 cases e
 have hln:(bl ((d.drop m).take (n-m))).length=n-m:=by rw[bl_len,List.length_take,List.length_drop];omega
 rw[bl_len] at hl hce
 refine⟨⟨if cap=m then ao else ao.map (·.add (m*1)),cap-m,by rw[hln];rfl,by rw[hln];omega,fun j hj=>?_,bl_bnd _⟩,by rw[List.length_take,List.length_drop];omega,fun a l c hv ha=>?_⟩
 ·rw[hln] at hj
  obtain⟨b2,off2,e2,hb,hcell⟩:=hce (m+j) (by omega)
  subst e2;refine⟨b2,off2+m,?_,hb,?_⟩
  ·rw[if_neg (by omega),Option.map_some,addr_add,Nat.mul_one]
  ·rw[show off2+m+j=off2+(m+j) by omega,hcell,bl_get,bl_get,List.getD_eq_getElem?_getD,List.getD_eq_getElem?_getD,List.getElem?_take_of_lt hj,List.getElem?_drop]
 ·unfold slc at hv
  injection hv with q1 q2 q3
  subst q3;subst q1
  cases ao with
  |none=>
   have:=h3 none _ _ rfl rfl;omega
  |some x=>
   split at ha
   ·cases ha
   ·cases ha
theorem ri_of {l:List B} {v n:Nat} (h:rd 0 l=.ok v n):ri l=if l.length-n<v then .er 73 else .ok ((l.drop n).take v) (n+v):=by
 unfold ri;rw[h]
theorem ri_of_er {l:List B} {e:Int} (h:rd 0 l=.er e):ri l=.er e:=by
 unfold ri;rw[h]
set_option maxRecDepth 100000 in
set_option maxHeartbeats 4000000 in
theorem a_readItem (d:List B) (p:Nat) (hp:p≤d.length) (w:World) (v:Value) (hB:BysB w v d) (hcap:∀a l c,v=.slice a l c→l≤c):Calls Tryz.prog 137 #[v,.int .i64 (p:Int)] w fun e w'=>∃u,e=.returned (.tuple #[u,.int .i64 (rie p (ri (d.drop p))),.int .i64 (rir (ri (d.drop p)))])∧Own w' w.heap.size u (rip (ri (d.drop p)))∧Below w.heap.size w w':=by
 have hlen:=hB.2.1;have cN:=a_number d p hp w v hB;obtain⟨ao,cap,rfl⟩:=hB.form;have hcp:=hcap _ _ _ rfl;clear hcap
 cases hr:rd 0 (d.drop p) with
 |er e=>
  have he:(e==0)=false:=by rcases rd_er _ _ _ hr with h|h<;>subst h<;>rfl
  rw[ri_of_er hr];rw[hr] at cN;simp only[rie,rir,rip];unfold nres at cN
  go_enter Tryz.func137,Tryz.ntmps137
  go_wp2_with (fail)
  refine cN.mono ?_;rintro e_ w1 ⟨rfl,hb⟩;clear cN
  go_wp2_with (fail)
  go_ret3
  exact⟨_,rfl,own_none _ _,hb⟩
 |ok n k=>
  have hk:=rd0_len hr;rw[List.length_drop] at hk;have hn:=(rd0_ok hr).2.2;have hri:=ri_of hr;rw[hr] at cN;unfold nres at cN;rw[List.length_drop,List.drop_drop] at hri
  generalize hq:p+k=q at *
  have hq2:d.length-p-k=d.length-q:=by omega
  rw[hq2] at hri
  by_cases h2:d.length-q<n
  ·rw[if_pos h2] at hri
   rw[hri]
   simp only[rie,rir,rip]
   have d2:decide ((n:Int)>(d.length:Int)-(q:Int))=true:=by simp;omega
   clear hri hr hq2
   go_enter Tryz.func137,Tryz.ntmps137
   go_wp2_with (fail)
   refine cN.mono ?_;rintro e_ w1 ⟨rfl,hb⟩;clear cN
   go_wp2_with (fail)
   go_ret3
   exact⟨_,rfl,own_none _ _,hb⟩
  ·rw[if_neg h2] at hri
   rw[hri]
   simp only[rie,rir,rip]
   have d2:decide ((n:Int)>(d.length:Int)-(q:Int))=false:=by simp;omega
   have hsl:=sl_mid ao d.length cap q (q+n) (by omega) (by omega)
   rw[Int.natCast_add] at hsl
   have hbm:=fun V (h:BysB V (.slice ao d.length cap) d)=>bysB_mid (m:=q) (n:=q+n) h (by omega) (by omega) hcp
   rw[Nat.add_sub_cancel_left] at hbm
   have hfin:Hid (((p+(k+n):Nat):Int)=(q:Int)+(n:Int)):=hide (by omega)
   clear hri hr hq2
   generalize (d.drop q).take n=D at *
   generalize slc ao cap q (q+n)=u at *
   go_enter Tryz.func137,Tryz.ntmps137
   go_wp2_with (fail)
   refine cN.mono ?_;rintro e_ w1 ⟨rfl,hb⟩;clear cN;have cC:=a_clone D w1 u (hbm w1 (hB.keep hb));clear hbm
   go_wp2_with (fail)
   refine cC.mono ?_;rintro e_ w2 ⟨u2,rfl,hO,hb2⟩;clear cC
   go_wp2_with (fail)
   go_ret3
   refine⟨u2,?_,own_down hO hb.size,Below.after hb hb2⟩;rw[hfin.out];rfl
end Go.Proofs.YtmmlkfkpblokiaaGreatDoor
