import Derived.Test.YtmmlkfkpblokiaaGreatDoorQzXdb
import Derived.ChangeSlices
import Derived.ChangeArms
import Derived.SizedLaws
import Derived.Deep.Slices
set_option maxRecDepth 100000
set_option maxHeartbeats 16000000
namespace Go.Proofs.YtmmlkfkpblokiaaGreatDoor
open Go Go.RowKit Go.Sort
attribute [local go_sem] setCell_drewN alloc_drewN
theorem after_nil (r:RS):r.after []=r:=by
 cases r<;>rfl
theorem a_split (d:List B) (w:World) (v:Value) (hB:BysB w v d) (hcap:∀a l c,v=.slice a l c→l≤c):Calls Tryz.prog 132 #[v] w fun e w'=>∃u us,e=.returned (.tuple #[u,.int .i64 (spa (sp d)),.int .i64 (spe (sp d))])∧Its w' w.heap.size u us (spp (sp d))∧Below w.heap.size w w':=by
 have hlen:=hB.2.1;obtain⟨ao,cap,rfl⟩:=hB.form
 by_cases h1:4194304<d.length
 ·have hsp:sp d=.er 2 0:=if_pos h1
  have d1:decide ((d.length:Int)>4194304)=true:=by simp;omega
  rw[hsp];simp only[spa,spe,spp]
  go_enter Tryz.func132,Tryz.ntmps132
  go_wp2_with (fail)
  go_ret3
  exact⟨_,[],rfl,its_nil _ _,Below.refl _ _⟩
 ·have hsp:sp d=spl d.length 0 0 d:=if_neg h1
  have d1:decide ((d.length:Int)>4194304)=false:=by simp;omega
  go_enter Tryz.func132,Tryz.ntmps132
  go_wp2_with (fail)
  go_loopw [5,6] (fun s i wr=>∃(q:Nat) (us:List Value) (ps:List (List B)) (so:Option Addr) (sc:Nat),q≤d.length∧i=.int .i64 (q:Int)∧s=.slice so ps.length sc∧ps.length≤4096∧Its wr w.heap.size (.slice so ps.length sc) us ps∧sp d=(spl (d.drop q).length q ps.length (d.drop q)).after ps∧Below w.heap.size w wr) (fun _ i _=>d.length-(intOf i).toNat)
  case atStart=>exact⟨0,[],[],_,_,by omega,rfl,rfl,by simp,its_nil _ _,by rw[hsp];exact(after_nil _).symm,Below.refl _ _⟩
  case round=>
   skip
   clear hsp;obtain⟨q,us,ps,so,sc,hq,rfl,rfl,hps,hI,hsp,hw⟩:=hrel;have hws:=hw.size
   by_cases hlt:q<d.length
   ·have hd:decide ((q:Int)<(d.length:Int))=true:=by simp;omega
    have hne:d.drop q≠[]:=by intro e;have:=congrArg List.length e;rw[List.length_drop] at this;simp at this;omega
    by_cases hc:ps.length=4096
    ·rw[hc,spl_full hne] at hsp
     have hfin:Hid (sp d=.er 2 q):=hide hsp
     have d3:((ps.length:Int)==4096)=true:=by simp;omega
     clear hsp;replace hc:=hide hc
     generalize ps.length=pl at *
     go_wp2_with (fail)
     go_ret3
     rw[hfin.out];exact⟨_,[],rfl,its_nil _ _,hw⟩
    ·have d3:((ps.length:Int)==4096)=false:=by simp;omega
     have cR:=a_readItem d q hq wr _ (hB.keep hw) hcap
     cases hr:ri (d.drop q) with
     |er e=>
      rw[spl_er hne hc hr] at hsp;have hfin:Hid (sp d=.er e q):=hide hsp;rw[hr] at cR;simp only[rie,rir,rip] at cR
      have he:(e==0)=false:=by rcases ri_er hr with h|h<;>subst h<;>rfl
      clear hsp hr
      generalize ps.length=pl at *
      go_wp2_with (fail)
      refine cR.mono ?_;rintro e_ w1 ⟨u,rfl,hO,hb⟩;replace hw:=Below.after hw hb;clear cR hb
      go_wp2_with (fail)
      go_ret3
      rw[hfin.out];exact⟨_,[],rfl,its_nil _ _,hw⟩
     |ok x n=>
      rw[spl_step hne hc hr,after_cons,List.drop_drop] at hsp;have hro:=ri_ok hr;rw[List.length_drop] at hro
      have hxl:x.length≤d.length:=by omega
      rw[hr] at cR;simp only[rie,rir,rip] at cR
      have hnext:Hid (sp d=(spl (d.drop (q+n)).length (q+n) (ps++[x]).length (d.drop (q+n))).after (ps++[x])):=hide (by rw[hsp,List.length_append,List.length_singleton])
      have hqn:q+n≤d.length:=by omega
      have hn0:0<n:=hro.1;clear hsp hr hro hne
      generalize hpl:ps.length=pl at *
      go_wp2_with (fail)
      refine cR.mono ?_;rintro e_ w1 ⟨u,rfl,hO,hb⟩;have hI1:=hI.keep hb;have hhi:=hI.high;replace hw:=Below.after hw hb;have hs1:=hb.size;clear cR hb;obtain⟨uo,uc,hu⟩:=slen_own hO;have hba:Below w1.heap.size w1 (w1.alloc (.cells #[u] 24)):=(Below.refl _ _).alloc (Nat.le_refl _) _;have hI2:=hI1.keep hba;have hO2:=own_alloc hO (.cells #[u] 24);subst hu
      go_wp2_with (first|(at_builtin;refine wpList_append_I rfl (.tmp 32) (.tmp 34) rfl w.heap.size _ us ps rfl wr.heap.size hI2 hhi.1 hhi.2 hws _ x hO2 w1.heap.size rfl (new_cell1 w1 _ _) (by omega) (by rw[size_alloc1];omega) ?_)|fail)
      intro v4 w4 hI4 hgr
      have hw4:=(hw.alloc hw.size (.cells #[Value.slice uo x.length uc] 24)).grown hgr (by rw[size_alloc1];omega) (fun k e=>(own_high_row hI.1 k e).1)
      obtain⟨ao4,ac4,hv4⟩:=slen_own hI4.1;have hlen4:(us++[Value.slice uo x.length uc]).length=(ps++[x]).length:=hI4.2.1;rw[hlen4] at hv4
      have hps2:(ps++[x]).length≤4096:=by rw[List.length_append,List.length_singleton];omega
      generalize ps++[x]=ps2 at *
      subst hv4;clear hI hI1 hI2 hO hO2 hgr
      go_wp2_with (fail)
      refine⟨⟨q+n,_,ps2,ao4,ac4,hqn,rfl,rfl,hps2,hI4,hnext.out,hw4⟩,?_⟩
      simp[intOf];omega
   ·obtain rfl:q=d.length:=by omega
    have hd:decide ((d.length:Int)<(d.length:Int))=false:=by simp
    rw[List.drop_length,List.length_nil,spl,RS.after,List.append_nil] at hsp;have hfin:Hid (sp d=.ok ps):=hide hsp;clear hsp
    generalize hpl:ps.length=pl at *
    go_wp2_with (fail)
    go_ret3
    rw[hfin.out];exact⟨_,us,rfl,hI,hw⟩
theorem r_split (d:List B) (w:World) (v:Value) (hB:BysB w v d) (hcap:∀a l c,v=.slice a l c→l≤c):Calls Tryz.prog 86 #[v] w fun e w'=>∃u us,e=.returned (.tuple #[u,.int .i64 (spa (sp d)),.int .i64 (spe (sp d))])∧Its w' w.heap.size u us (spp (sp d))∧Below w.heap.size w w':=by
 have hlen:=hB.2.1;obtain⟨ao,cap,rfl⟩:=hB.form
 by_cases h1:4194304<d.length
 ·have hsp:sp d=.er 2 0:=if_pos h1
  have d1:decide ((d.length:Int)>4194304)=true:=by simp;omega
  rw[hsp];simp only[spa,spe,spp]
  go_enter Tryz.func86,Tryz.ntmps86
  go_wp2_with (fail)
  go_ret3
  exact⟨_,[],rfl,its_nil _ _,Below.refl _ _⟩
 ·have hsp:sp d=spl d.length 0 0 d:=if_neg h1
  have d1:decide ((d.length:Int)>4194304)=false:=by simp;omega
  have hI0:=its_empty w;have hw0:Below w.heap.size w (w.alloc (.cells #[] 24)):=(Below.refl _ _).alloc (Nat.le_refl _) _
  go_enter Tryz.func86,Tryz.ntmps86
  go_wp2_with (fail)
  generalize w.alloc (.cells #[] 24)=w0 at *
  go_loopw [5,6] (fun s i wr=>∃(q:Nat) (us:List Value) (ps:List (List B)) (so:Option Addr) (sc:Nat),q≤d.length∧i=.int .i64 (q:Int)∧s=.slice so ps.length sc∧ps.length≤4096∧Its wr w.heap.size (.slice so ps.length sc) us ps∧sp d=(spl (d.drop q).length q ps.length (d.drop q)).after ps∧Below w.heap.size w wr) (fun _ i _=>d.length-(intOf i).toNat)
  case atStart=>exact⟨0,[],[],_,_,by omega,rfl,rfl,by simp,hI0,by rw[hsp];exact(after_nil _).symm,hw0⟩
  case round=>
   clear hI0 hw0;clear hsp;obtain⟨q,us,ps,so,sc,hq,rfl,rfl,hps,hI,hsp,hw⟩:=hrel;have hws:=hw.size
   by_cases hlt:q<d.length
   ·have hd:decide ((q:Int)<(d.length:Int))=true:=by simp;omega
    have hne:d.drop q≠[]:=by intro e;have:=congrArg List.length e;rw[List.length_drop] at this;simp at this;omega
    by_cases hc:ps.length=4096
    ·rw[hc,spl_full hne] at hsp
     have hfin:Hid (sp d=.er 2 q):=hide hsp
     have d3:decide ((ps.length:Int)≥4096)=true:=by simp;omega
     clear hsp;replace hc:=hide hc
     generalize ps.length=pl at *
     go_wp2_with (fail)
     go_ret3
     rw[hfin.out];exact⟨_,[],rfl,its_nil _ _,hw⟩
    ·have d3:decide ((ps.length:Int)≥4096)=false:=by simp;omega
     have cN:=r_number d q hq wr _ (hB.keep hw)
     cases hr:rd 0 (d.drop q) with
     |er e=>
      rw[spl_er hne hc (ri_of_er hr)] at hsp;have hfin:Hid (sp d=.er e q):=hide hsp;rw[hr] at cN;unfold nres at cN
      have he:(e==0)=false:=by rcases rd_er _ _ _ hr with h|h<;>subst h<;>rfl
      clear hsp hr
      generalize ps.length=pl at *
      go_wp2_with (fail)
      refine cN.mono ?_;rintro e_ w1 ⟨rfl,hb⟩;replace hw:=Below.after hw hb;clear cN hb
      go_wp2_with (fail)
      go_ret3
      rw[hfin.out];exact⟨_,[],rfl,its_nil _ _,hw⟩
     |ok n k=>
      have hk:=rd0_len hr;rw[List.length_drop] at hk;have hn:=(rd0_ok hr).2.2;have hri:=ri_of hr;rw[hr] at cN;unfold nres at cN;rw[List.length_drop,List.drop_drop] at hri;have hcp:=hcap _ _ _ rfl
      by_cases h2:d.length-q-k<n
      ·rw[if_pos h2] at hri
       rw[spl_er hne hc hri] at hsp
       have hfin:Hid (sp d=.er 73 q):=hide hsp;clear hsp hri hr
       generalize hqk:q+k=r at *
       have d2:decide ((n:Int)>(d.length:Int)-(r:Int))=true:=by simp;omega
       generalize ps.length=pl at *
       go_wp2_with (fail)
       refine cN.mono ?_;rintro e_ w1 ⟨rfl,hb⟩;replace hw:=Below.after hw hb;clear cN hb
       go_wp2_with (fail)
       go_ret3
       rw[hfin.out];exact⟨_,[],rfl,its_nil _ _,hw⟩
      ·rw[if_neg h2] at hri
       rw[spl_step hne hc hri,after_cons,List.drop_drop] at hsp
       have hro:=ri_ok hri
       generalize hX:(d.drop (q+k)).take n=x at *
       have hxl:x.length=n:=by rw[←hX,List.length_take,List.length_drop];omega
       have hnext:Hid (sp d=(spl (d.drop (q+(k+n))).length (q+(k+n)) (ps++[x]).length (d.drop (q+(k+n)))).after (ps++[x])):=hide (by rw[hsp,List.length_append,List.length_singleton])
       have hsl:=sl_mid ao d.length cap (q+k) (q+k+n) (by omega) (by omega)
       have hbm:=fun V (h:BysB V (.slice ao d.length cap) d)=>bysB_mid (m:=q+k) (n:=q+k+n) h (by omega) (by omega) hcp
       rw[Nat.add_sub_cancel_left,hX] at hbm;clear hsp hri hr hro hne;replace hX:=hide hX
       have hxb:x.length≤140737488355000:=by omega
       replace hxl:=hide hxl
       have hqn:Hid (q+(k+n)≤d.length):=hide (by omega)
       generalize slc ao cap (q+k) (q+k+n)=u0 at *
       generalize hqk:q+k=r at *
       rw[Int.natCast_add] at hsl
       have d2:decide ((n:Int)>(d.length:Int)-(r:Int))=false:=by simp;omega
       have hb0':∀V:World,Below V.heap.size V (V.alloc (.cells #[] 5)):=fun V=>(Below.refl _ _).alloc (Nat.le_refl _) _
       generalize hpl:ps.length=pl at *
       go_wp2_with (fail)
       refine cN.mono ?_;rintro e_ w1 ⟨rfl,hb⟩;have hI1:=hI.keep hb;have hhi:=hI1.high;replace hw:=Below.after hw hb;clear cN hb;have hbe:=hb0' w1;have hwe:=Below.after hw hbe;have hE:=hbm _ (hB.keep hwe);have hOn:=own_nil w1
       go_wp2_with (at_builtin;suffices h9:True∧_ from h9.2)
       refine⟨trivial,?_⟩
       refine wpList_append_B rfl (.tmp 42) (.tmp 49) rfl w1.heap.size _ [] rfl hOn _ x rfl hE (by simp only[List.length_nil];omega) hbe.size ?_
       intro u2 w2 hO2 hgr;rw[List.nil_append] at hO2;have hbf:=hbe.grown hgr hbe.size (own_low hOn);clear hgr hOn hE hbm hbe;have hI2:=hI1.keep hbf;have hwf:=Below.after hw hbf;obtain⟨ao2,ac2,hu2⟩:=slen_own hO2;have hs2:=hbf.size;have hs1:=hw.size;have hba:Below w2.heap.size w2 (w2.alloc (.cells #[u2] 24)):=(Below.refl _ _).alloc (Nat.le_refl _) _;have hI3:=hI2.keep hba;have hO3:=own_alloc hO2 (.cells #[u2] 24);subst hu2
       go_wp2_with (at_builtin;suffices h9:True∧_ from h9.2)
       refine⟨trivial,?_⟩
       refine wpList_append_I rfl (.tmp 41) (.tmp 51) rfl w.heap.size _ us ps rfl w1.heap.size hI3 hhi.1 hhi.2 hs1 _ x hO3 w2.heap.size rfl (new_cell1 w2 _ _) (by omega) (by rw[size_alloc1];omega) ?_
       intro v4 w4 hI4 hgr
       have hw4:=(hwf.alloc hwf.size (.cells #[Value.slice ao2 x.length ac2] 24)).grown hgr (by rw[size_alloc1];omega) (fun k e=>(own_high_row hI.1 k e).1)
       obtain⟨ao4,ac4,hv4⟩:=slen_own hI4.1;have hlen4:(us++[Value.slice ao2 x.length ac2]).length=(ps++[x]).length:=hI4.2.1;rw[hlen4] at hv4
       have hps2:(ps++[x]).length≤4096:=by rw[List.length_append,List.length_singleton];omega
       generalize ps++[x]=ps2 at *
       subst hv4;clear hI hI1 hI2 hI3 hO2 hO3 hgr
       go_wp2_with (fail)
       refine⟨⟨q+(k+n),_,ps2,ao4,ac4,hqn.out,by congr 1;omega,rfl,hps2,hI4,hnext.out,hw4⟩,?_⟩
       simp[intOf];omega
   ·obtain rfl:q=d.length:=by omega
    have hd:decide ((d.length:Int)<(d.length:Int))=false:=by simp
    rw[List.drop_length,List.length_nil,spl,RS.after,List.append_nil] at hsp;have hfin:Hid (sp d=.ok ps):=hide hsp;clear hsp
    generalize hpl:ps.length=pl at *
    go_wp2_with (fail)
    go_ret3
    rw[hfin.out];exact⟨_,us,rfl,hI,hw⟩
end Go.Proofs.YtmmlkfkpblokiaaGreatDoor
namespace Go.Proofs.YtmmlkfkpblokiaaGreatDoor
open Go Go.RowKit Go.Sort
theorem rd_take {l:List B} {v n:Nat} (h:rd 0 l=.ok v n):l=en v++l.drop n∧l.take n=en v:=by
 obtain⟨⟨r,hr⟩,hn,_⟩:=rd0_ok h;subst hn
 constructor
 ·conv=>lhs;rw[hr]
  rw[hr,List.drop_left]
 ·rw[hr,List.take_left]
theorem rh_form {l:List B} {last:Int} {c:Nat} {no ty:Int} {n:Nat} (num:Nat) (dat:List B) (h:rh l last c=.ok no ty n):l=en (fhd ⟨no,ty,num,dat⟩)++l.drop n∧hck ⟨no,ty,num,dat⟩ last=0:=by
 unfold rh at h
 cases hr:rd 0 l with
 |er e=>rw[hr] at h;cases h
 |ok v m=>
  rw[hr] at h;simp only at h
  by_cases h1:c=64
  ·rw[if_pos h1] at h;cases h
  rw[if_neg h1] at h
  by_cases h2:536870911<v/8
  ·rw[if_pos h2] at h;cases h
  rw[if_neg h2] at h
  by_cases h3:hck ⟨((v:Int)/8),((v:Int)%8),0,[]⟩ last=0
  ·rw[if_neg (by rw[h3];simp)] at h
   injection h with e1 e2 e3
   subst e1 e2 e3;refine⟨?_,h3⟩
   have:fhd ⟨(v:Int)/8,(v:Int)%8,num,dat⟩=v:=by
    show 8*((v:Int)/8).toNat+((v:Int)%8).toNat=v
    omega
   rw[this];exact(rd_take hr).1
  ·rw[if_pos h3] at h;cases h
theorem take_fx (l:List B) (k:Nat) (h:k≤l.length):l=fx k (fxv (l.take k))++l.drop k:=by
 have:=fx_fxv (l.take k);rw[List.length_take,Nat.min_eq_left h] at this;rw[this,List.take_append_drop]
theorem rv_form {l:List B} {no ty:Int} {num m:Nat} {dat:List B} (hk:known ty) (h:rv l ty=.ok num dat m):l=fvl ⟨no,ty,num,dat⟩++l.drop m∧fits ⟨no,ty,num,dat⟩:=by
 unfold rv at h
 rcases hk with rfl|rfl|rfl|rfl
 ·rw[if_neg (by decide),if_neg (by decide),if_neg (by decide)] at h
  cases hr:rd 0 l with
  |er e=>rw[hr] at h;cases h
  |ok v n=>
   rw[hr] at h
   injection h with e1 e2 e3
   subst e1 e2 e3
   exact⟨(rd_take hr).1,by simp[fits]⟩
 ·rw[if_pos rfl] at h
  by_cases hl:l.length<8
  ·rw[if_pos hl] at h;cases h
  ·rw[if_neg hl] at h
   injection h with e1 e2 e3
   subst e1 e2 e3
   exact⟨take_fx l 8 (by omega),by simp[fits]⟩
 ·rw[if_neg (by decide),if_neg (by decide),if_pos rfl] at h
  cases hr:ri l with
  |er e=>rw[hr] at h;cases h
  |ok p n=>
   rw[hr] at h
   injection h with e1 e2 e3
   subst e1 e2 e3
   exact⟨(ri_ok hr).2.2.2.1,by simp[fits]⟩
 ·rw[if_neg (by decide),if_pos rfl] at h
  by_cases hl:l.length<4
  ·rw[if_pos hl] at h;cases h
  ·rw[if_neg hl] at h
   injection h with e1 e2 e3
   subst e1 e2 e3
   refine⟨take_fx l 4 (by omega),?_⟩
   have:=fxv_lt2 (l.take 4)
   rw[List.length_take,Nat.min_eq_left (by omega)] at this
   simp[fits]
   omega
theorem whl_ok {d:List B}:∀(k p:Nat) (last:Int) (c:Nat),d.length-p≤k→p≤d.length→c≤64→(whl d k p last c).2=none→
 ech ((whl d k p last c).1.map (·.2)) last=0∧ebs ((whl d k p last c).1.map (·.2))=d.drop p∧(whl d k p last c).1.length+c≤64
 |0,p,last,c,hk,hp,hc,_=>by
  have:p=d.length:=by omega
  subst this
  simp[whl,ech,ebs,hc]
 |k+1,p,last,c,hk,hp,hc,h=>by
  by_cases hlt:p<d.length
  ·rw[whl,if_pos hlt] at h⊢
   cases hr:rh (d.drop p) last c with
   |er e'=>rw[hr] at h;simp at h
   |ok no ty n=>
    rw[hr] at h
    simp only at h⊢
    obtain⟨hn0,hnl,hc64,hty,_⟩:=rh_ok hr;rw[List.length_drop] at hnl
    cases hv:rv (d.drop (p+n)) ty with
    |er e'=>rw[hv] at h;simp at h
    |ok num dat m=>
     rw[hv] at h
     simp only at h⊢
     have hml:=(rv_ok hv).1;rw[List.length_drop] at hml
     obtain⟨i1,i2,i3⟩:=whl_ok k (p+n+m) no (c+1) (by omega) (by omega) (by omega) h
     obtain⟨f1,f2⟩:=rh_form num dat hr;obtain⟨f3,f4⟩:=rv_form (no:=no) hty hv
     refine⟨?_,?_,by rw[List.length_cons];omega⟩
     ·have hf:fck ⟨no,ty,num,dat⟩ last=0:=by rw[fck,if_neg (by rw[f2];simp),if_pos f4]
      rw[List.map_cons,ech,if_neg (by rw[hf];simp)]
      exact i1
     ·rw[List.map_cons,ebs,i2,fby,List.append_assoc]
      rw[List.drop_drop] at f1 f3
      rw[←f3,←f1]
  ·rw[whl,if_neg hlt] at h⊢
   have:p=d.length:=by omega
   subst this
   simp[ech,ebs,hc]
theorem der_none {x:List (Nat×Fd)×Option (Nat×Int)} (hx:∀q e,x.2=some (q,e)→e≠0) (h:der x=0):x.2=none:=by
 cases hc:x.2 with
 |none=>rfl
 |some y=>
  obtain⟨q,e⟩:=y;simp only[der,hc] at h;exact absurd h (hx q e hc)
theorem dwh_er {d:List B}:∀q e,(dwh d).2=some (q,e)→e≠0:=by
 intro q e h;unfold dwh at h
 split at h
 ·simp at h;omega
 ·exact whl_er _ _ _ _ h
theorem dec_enc {d:List B} (h:der (dwh d)=0):eer (dfs (dwh d))=0∧eout (dfs (dwh d))=d:=by
 have hn:=der_none dwh_er h
 by_cases h1:4194304<d.length
 ·unfold dwh at hn
  rw[if_pos h1] at hn
  simp at hn
 ·have hd:dwh d=whl d d.length 0 0 0:=if_neg h1
  rw[hd] at hn⊢
  obtain⟨i1,i2,i3⟩:=whl_ok d.length 0 0 0 (by omega) (by omega) (by omega) hn
  have hf:dfs (whl d d.length 0 0 0)=(whl d d.length 0 0 0).1.map (·.2):=by simp[dfs,hn]
  rw[List.drop_zero] at i2
  have he:eer (dfs (whl d d.length 0 0 0))=0:=by
   rw[hf,eer,if_neg (by rw[List.length_map];omega),if_neg (by rw[i1];simp),if_neg (by rw[i2];omega)]
  exact⟨he,by rw[eout,if_pos he,hf,i2]⟩
theorem spl_ok:∀(f p c:Nat) (l:List B) (ps:List (List B)),l.length≤f→c≤4096→spl f p c l=.ok ps→jn ps=l∧ps.length+c≤4096
 |0,p,c,l,ps,hf,hc,h=>by
  have:l=[]:=List.length_eq_zero_iff.1 (by omega)
  rw[spl] at h
  injection h with h
  subst h this
  exact⟨rfl,by simp;exact hc⟩
 |f+1,p,c,l,ps,hf,hc,h=>by
  rw[spl] at h
  by_cases h0:l=[]
  ·rw[if_pos h0] at h
   injection h with h
   subst h h0
   exact⟨rfl,by simp;exact hc⟩
  rw[if_neg h0] at h
  by_cases h1:c=4096
  ·rw[if_pos h1] at h;cases h
  rw[if_neg h1] at h
  cases hr:ri l with
  |er e=>rw[hr] at h;cases h
  |ok x n=>
   rw[hr] at h;simp only at h;obtain⟨r1,r2,r3,r4,r5⟩:=ri_ok hr
   cases hs:spl f (p+n) (c+1) (l.drop n) with
   |er e q=>rw[hs] at h;cases h
   |ok qs=>
    rw[hs] at h
    injection h with h
    subst h
    obtain⟨i1,i2⟩:=spl_ok f (p+n) (c+1) (l.drop n) qs (by rw[List.length_drop];omega) (by omega) hs
    exact⟨by rw[jn,i1,←r4],by rw[List.length_cons];omega⟩
end Go.Proofs.YtmmlkfkpblokiaaGreatDoor
namespace Go.Proofs.YtmmlkfkpblokiaaGreatDoor
open Go Go.RowKit Go.Sort
attribute [local go_sem] setCell_drewN alloc_drewN
theorem whl_oks {d:List B} (hd:d.length≤4194304):∀(k p:Nat) (last:Int) (c:Nat),∀x∈(whl d k p last c).1,Fok x.2
 |0,_,_,_,x,h=>by simp[whl] at h
 |k+1,p,last,c,x,h=>by
  by_cases hlt:p<d.length
  ·rw[whl,if_pos hlt] at h
   cases hr:rh (d.drop p) last c with
   |er e'=>rw[hr] at h;simp at h
   |ok no ty n=>
    rw[hr] at h;simp only at h
    cases hv:rv (d.drop (p+n)) ty with
    |er e'=>rw[hv] at h;simp at h
    |ok num dat m=>
     rw[hv] at h;simp only at h
     rcases List.mem_cons.1 h with rfl|h
     ·have h1:=rv_ok hv
      have h2:=rh_ok hr
      rw[List.length_drop] at h1
      exact⟨h1.2.1,by show dat.length≤_;omega,by show _≤no;omega,by show no≤_;omega⟩
     ·exact whl_oks hd k _ _ _ x h
  ·rw[whl,if_neg hlt] at h;simp at h
theorem dfs_oks (d:List B):∀i,i<(dfs (dwh d)).length→Fok (gf (dfs (dwh d)) i):=by
 intro i hi
 have hm:gf (dfs (dwh d)) i∈dfs (dwh d):=by
  rw[gf,List.getD_eq_getElem?_getD,List.getElem?_eq_getElem hi];exact List.getElem_mem hi
 generalize gf (dfs (dwh d)) i=f at hm;clear hi;unfold dfs at hm
 split at hm
 ·obtain⟨x,hx,rfl⟩:=List.mem_map.1 hm
  unfold dwh at hx
  split at hx
  ·simp at hx
  ·exact whl_oks (by omega) _ _ _ _ x hx
 ·simp at hm
theorem dfs_len (d:List B) (h:der (dwh d)=0):(dfs (dwh d)).length≤64:=by
 have h1:=(dec_enc h).1;unfold eer at h1
 split at h1
 ·simp at h1
 ·omega
end Go.Proofs.YtmmlkfkpblokiaaGreatDoor
namespace Go.Proofs.YtmmlkfkpblokiaaGreatDoor
open Go Go.RowKit Go.Sort
end Go.Proofs.YtmmlkfkpblokiaaGreatDoor
namespace Go.Proofs.YtmmlkfkpblokiaaGreatDoor
open Go Go.ChangeShapes Go.WideShapes Go.ChangeAt Go.RowKit
theorem cU86:Tryz.prog.cellsOf 5=1:=by kernel_rfl
theorem bU86:Tryz.prog.bytesOf 5=1:=by kernel_rfl
theorem block_lt6 {w:World} {b o:Nat} {v:Value} (h:w.cell? ⟨b,o,none⟩=some v):b<w.heap.size:=by
 rcases Nat.lt_or_ge b w.heap.size with q|q
 ·exact q
 ·simp[World.cell?,Array.getElem?_eq_none q] at h
def BysC (W:World) (v:Value) (d:List B):Prop:=BysB W v d∧d.length≤140737488351232∧∀a l c,v=.slice a l c→l≤c
theorem bysC_of_trod {H:Type} {enc:TypeId×Value→H} {W:World} {m:Nat} {cs:List Value} {x:DataW H×List MemPlace} (hf:DataW.trod enc Tryz.prog W 0 (fun _=>true) true m 24 cs=some x) (hs:∀n∈x.1.weights Tryz.prog 24,n≤reachBytes):∃v d,cs=[v]∧BysC W v d:=by
 rcases open_ints Tryz.underlying24 Tryz.underlying5 cU86 hf with⟨hcs,hx⟩|⟨a,len,cap,zs,hcs,_,hl,hm,hz,hx,hcell,hwz⟩
 ·exact⟨_,[],hcs,⟨⟨none,0,rfl,by decide,fun j hj=>by simp[bl] at hj,bl_bnd _⟩,by decide,fun a l c h _=>by cases h;rfl⟩,by simp,fun a l c h=>by cases h;exact Nat.le_refl _⟩
 ·subst hx
  simp only[if_true] at hz
  have hb:=hs ((lits (H:=H) .u8 (zs.take len)).length+(lits (H:=H) .u8 (zs.drop len)).length) (by simp[DataW.weights,Tryz.underlying24,bU86])
  simp only[lits,List.length_map,List.length_take,List.length_drop,reachBytes] at hb
  have hlen:(zs.take len).length=len:=by rw[List.length_take];omega
  obtain⟨d,hd,e⟩:=bl_of (zs.take len) (fun z h=>u8_of_wf (hwz z (List.mem_of_mem_take h)))
  rw[hlen] at e
  refine⟨_,d,hcs,⟨⟨some a,cap,by rw[bl_len,e],by rw[bl_len];omega,fun j hj=>?_,bl_bnd _⟩,by omega,fun a l c h h2=>by cases h;cases h2⟩,by omega,fun a l c h=>by cases h;exact hl⟩
  rw[bl_len,e] at hj
  have hc:=hcell j (by omega)
  obtain⟨bb,off,spot⟩:=a
  have hspot:spot=none:=by simpa[Addr.add] using World.cell?_spot (hcell 0 (by omega))
  subst hspot;rw[addr_add] at hc;refine⟨bb,off,rfl,block_lt6 hc,?_⟩;rw[hc,←hd,List.getD_eq_getElem?_getD,List.getD_eq_getElem?_getD,List.getElem?_take_of_lt hj]
end Go.Proofs.YtmmlkfkpblokiaaGreatDoor
namespace Go.Proofs.YtmmlkfkpblokiaaGreatDoor
open Go Go.ChangeShapes Go.WideShapes Go.ChangeAt Go.RowKit Go.Deep
end Go.Proofs.YtmmlkfkpblokiaaGreatDoor
namespace Go.Proofs.YtmmlkfkpblokiaaGreatDoor
open Go Go.RowKit Go.Sort
attribute [local go_sem] setCell_drewN alloc_drewN
end Go.Proofs.YtmmlkfkpblokiaaGreatDoor
namespace Go.Proofs.YtmmlkfkpblokiaaGreatDoor
open Go Go.RowKit Go.Sort
def rdE (at_ E:Int):Option Flt3:=if E=0 then none else some ⟨0,at_,E⟩
theorem fdrop (fs:List Fd) (k:Nat) (h:k<fs.length):fs.drop k=gf fs k::fs.drop (k+1):=by
 rw[List.drop_eq_getElem_cons h]
 simp[gf,List.getD_eq_getElem?_getD,List.getElem?_eq_getElem h]
theorem en_head (no ty:Nat) (ht:ty<8):(en (8*no+ty)).length=(en (8*no)).length:=by
 by_cases h:no<16
 ·rw[en_lo (n:=8*no+ty) (by omega),en_lo (n:=8*no) (by omega)]
  rfl
 ·rw[en_hi (n:=8*no+ty) (by omega),en_hi (n:=8*no) (by omega),List.length_cons,List.length_cons,show(8*no+ty)/128=8*no/128 by omega]
inductive VT where
 |mk (num:Nat) (dat:List B) (parts:List VT)
namespace VT
def num:VT→Nat
 | .mk n _ _=>n
def dat:VT→List B
 | .mk _ d _=>d
def parts:VT→List VT
 | .mk _ _ p=>p
end VT
def vt0:VT:=.mk 0 [] []
def gvt (ps:List VT) (i:Nat):VT:=ps.getD i vt0
def lv (n:Nat) (a:Option Addr):Option Addr:=if n=0 then none else a
theorem lv_some {n:Nat} {a:Option Addr} {x:Addr} (h:lv n a=some x):a=some x:=by
 unfold lv at h
 split at h
 ·cases h
 ·exact h
theorem lv_pos {n:Nat} {a:Option Addr} (h:0<n):lv n a=a:=if_neg (by omega)
def InS (W:World) (S:Nat→Prop) (da:Option Addr):Prop:=∀a,da=some a→S a.block∧a.block<W.heap.size
inductive VtM (W:World) (S:Nat→Prop):VR→VT→Prop
 |mk (x:VR) (bs:List B) (xs:List VR) (ps:List VT) (hn:x.num<18446744073709551616) (hdl:x.dl=bs.length) (hbl:bs.length≤140737488351232) (hd:BysB W (.slice x.da x.dl x.dc) bs) (hdc:x.dl≤x.dc) (hds:InS W S (lv x.dl x.da))
  (hpl:x.pl=ps.length) (hxl:xs.length=ps.length) (hpc:ps.length≤x.pc) (hpm:ps.length≤5864062014634) (hps:InS W S (lv x.pl x.pa)) (hP:∀i,i<ps.length→∃b off,x.pa=some ⟨b,off,none⟩∧W.rangeAt b (off+i*3) (vrv (gx xs i)).toList)
  (hs:∀i,i<ps.length→VtM W S (gx xs i) (gvt ps i)):VtM W S x (.mk x.num bs ps)
theorem InS.keep {W V:World} {S T:Nat→Prop} {da:Option Addr} (h:InS W S da) (hk:Sty W V S T):InS V T da:=fun a e=>⟨(hk.2 _ (h a e).2 (h a e).1).2,Nat.lt_of_lt_of_le (h a e).2 hk.1⟩
theorem BysB.sty {W V:World} {S T:Nat→Prop} {da:Option Addr} {dl dc:Nat} {bs:List B} (h:BysB W (.slice da dl dc) bs) (hi:InS W S (lv dl da)) (hk:Sty W V S T):BysB V (.slice da dl dc) bs:=by
 obtain⟨⟨ao,cap,e,hl,hc,hz⟩,h2⟩:=h
 refine⟨⟨ao,cap,e,hl,fun j hj=>?_,hz⟩,h2⟩
 obtain⟨b,off,e2,hb,hcell⟩:=hc j hj
 injection e with e3 e4 e5
 subst e3
 have q:=hi _ ((lv_pos (by omega)).trans e2)
 refine⟨b,off,e2,Nat.lt_of_lt_of_le hb hk.1,?_⟩;rw[←hcell]
 show V.cell? ⟨b,off+j,none⟩=W.cell? ⟨b,off+j,none⟩
 simp only[World.cell?,(hk.2 b q.2 q.1).1]
theorem VtM.keep {W V:World} {S T:Nat→Prop} {x:VR} {X:VT} (h:VtM W S x X) (hk:Sty W V S T):VtM V T x X:=by
 induction h with
 |mk x bs xs ps hn hdl hbl hd hdc hds hpl hxl hpc hpm hps hP hs ih=>
  refine .mk x bs xs ps hn hdl hbl (hd.sty hds hk) hdc (hds.keep hk) hpl hxl hpc hpm (hps.keep hk) (fun i hi=>?_) ih
  obtain⟨b,off,e,h2⟩:=hP i hi
  have q:=hps _ ((lv_pos (by omega)).trans e)
  exact⟨b,off,e,range_same h2 (hk.2 b q.2 q.1).1⟩
theorem VtM.blw {W V:World} {S:Nat→Prop} {x:VR} {X:VT} (h:VtM W S x X) (hb:Below W.heap.size W V):VtM V S x X:=h.keep (Sty.below hb)
theorem VtM.num_eq {W:World} {S:Nat→Prop} {x:VR} {X:VT} (h:VtM W S x X):x.num=X.num∧x.num<18446744073709551616∧x.dl=X.dat.length∧x.dl≤140737488351232∧x.pl=X.parts.length:=by
 cases h with
 |mk x bs xs ps hn hdl hbl hd hdc hds hpl hxl hpc hpm hps hP hs=>exact⟨rfl,hn,hdl,by rw[hdl];exact hbl,hpl⟩
def PtM (W:World) (S:Nat→Prop) (pv:Value) (xs:List VR) (ps:List VT):Prop:=∃ao cap,pv=.slice ao ps.length cap∧xs.length=ps.length∧ps.length≤cap∧ps.length≤5864062014634∧(∀i,i<ps.length→∃b off,ao=some ⟨b,off,none⟩∧b<W.heap.size∧W.rangeAt b (off+i*3) (vrv (gx xs i)).toList)∧∀i,i<ps.length→VtM W S (gx xs i) (gvt ps i)
theorem VtM.split {W:World} {S:Nat→Prop} {x:VR} {X:VT} (h:VtM W S x X):∃xs,PtM W S (.slice x.pa x.pl x.pc) xs X.parts:=by
 cases h with
 |mk x bs xs ps hn hdl hbl hd hdc hds hpl hxl hpc hpm hps hP hs=>
  refine⟨xs,x.pa,x.pc,by rw[hpl];rfl,hxl,hpc,hpm,fun i hi=>?_,hs⟩
  obtain⟨b,off,e,h2⟩:=hP i hi
  exact⟨b,off,e,(hps _ ((lv_pos (by rw[hpl];exact Nat.lt_of_le_of_lt (Nat.zero_le i) hi)).trans e)).2,h2⟩
theorem PtM.blw {W V:World} {S:Nat→Prop} {pv:Value} {xs:List VR} {ps:List VT} (h:PtM W S pv xs ps) (hb:Below W.heap.size W V):PtM V S pv xs ps:=by
 obtain⟨ao,cap,e,h1,h2,h3,h4,h5⟩:=h
 refine⟨ao,cap,e,h1,h2,h3,fun i hi=>?_,fun i hi=>(h5 i hi).blw hb⟩
 obtain⟨b,off,q1,q2,q3⟩:=h4 i hi;exact⟨b,off,q1,Nat.lt_of_lt_of_le q2 hb.size,rangeS_keep2 q3 hb q2⟩
section
variable (utf : List B → Bool) (flE : Nat → Nat → Int)
def plE8 (k:Int) (l m:Nat) (x:VT):Int:=
 if k=5 then wth (x.dat.length:Int) (l:Int) (m:Int)
 else if k=6 then(if wth (x.dat.length:Int) (l:Int) (m:Int)≠0 then wth (x.dat.length:Int) (l:Int) (m:Int) else if utf x.dat then 0 else 84)
 else if k=7 then flE x.num m
 else if k=4 then wth (x.num:Int) 0 1 else wth (x.num:Int) (l:Int) (m:Int)
def isB (k:Int):Bool:=k==5||k==6
def frsT (f:VT→Option Flt3):List VT→Option Flt3
 |[]=>none
 |x::xs=>match f x with
  |some e=>some e
  |none=>frsT f xs
def ckN (n:Nat) (f:List VT→Int→Option Flt3) (x:VT) (deep:Int):Option Flt3:=if x.num≠0∨0<x.dat.length then some ⟨deep,0,84⟩ else if x.parts.length≠n then some ⟨deep,0,81⟩ else f x.parts deep
def slN (no k:Int) (l m n:Nat) (f:List VT→Int→Option Flt3) (x:VT) (deep:Int):Option Flt3:=
 if k=8 then ckN n f x (deep+1)
 else if k=9 then(if x.num≠0∨0<x.dat.length then some ⟨deep,no,84⟩ else if wth (x.parts.length:Int) (l:Int) (m:Int)≠0 then some ⟨deep,no,wth (x.parts.length:Int) (l:Int) (m:Int)⟩ else frsT (fun p=>ckN n f p (deep+1)) x.parts)
 else pck deep no (isB k) x.num x.dat.length x.parts.length (plE8 utf flE k l m x)
def chT:List Slt→List VT→Int→Option Flt3
 | .mk no k l m sub::ts,x::xs,deep=>match slN utf flE no k l m sub.length (chT sub) x deep with
  |some f=>some f
  |none=>chT ts xs deep
 |_,_,_=>none
def ckT (ts:List Slt) (x:VT) (deep:Int):Option Flt3:=ckN ts.length (chT utf flE ts) x deep
def slT (t:Slt) (x:VT) (deep:Int):Option Flt3:=slN utf flE t.no t.kind t.least t.most t.sub.length (chT utf flE t.sub) x deep
theorem chT_cons (t:Slt) (ts:List Slt) (x:VT) (xs:List VT) (deep:Int):chT utf flE (t::ts) (x::xs) deep=match slT utf flE t x deep with
 |some f=>some f
 |none=>chT utf flE ts xs deep:=by
 cases t
 rw[chT];rfl
theorem chT_nil (xs:List VT) (deep:Int):chT utf flE [] xs deep=none:=by rw[chT];intros;contradiction
theorem vdrop (xs:List VT) (k:Nat) (h:k<xs.length):xs.drop k=gvt xs k::xs.drop (k+1):=by
 rw[List.drop_eq_getElem_cons h]
 simp[gvt,List.getD_eq_getElem?_getD,List.getElem?_eq_getElem h]
theorem chT_drop {ts:List Slt} {xs:List VT} {deep:Int} {k:Nat} (h1:k<ts.length) (h2:k<xs.length):chT utf flE (ts.drop k) (xs.drop k) deep=match slT utf flE (gs ts k) (gvt xs k) deep with
 |some f=>some f
 |none=>chT utf flE (ts.drop (k+1)) (xs.drop (k+1)) deep:=by
 rw[sdrop ts k h1,vdrop xs k h2,chT_cons]
theorem slT_msg {t:Slt} (h:t.kind=8) (x:VT) (deep:Int):slT utf flE t x deep=ckT utf flE t.sub x (deep+1):=by unfold slT slN;rw[if_pos h];rfl
theorem slT_lst {t:Slt} (h:t.kind=9) (x:VT) (deep:Int):slT utf flE t x deep=if x.num≠0∨0<x.dat.length then some ⟨deep,t.no,84⟩ else if wth (x.parts.length:Int) (t.least:Int) (t.most:Int)≠0 then some ⟨deep,t.no,wth (x.parts.length:Int) (t.least:Int) (t.most:Int)⟩ else frsT (fun p=>ckT utf flE t.sub p (deep+1)) x.parts:=by
 unfold slT slN
 rw[if_neg (by omega),if_pos h]
 rfl
theorem slT_pl {t:Slt} (h8:t.kind≠8) (h9:t.kind≠9) (x:VT) (deep:Int):slT utf flE t x deep=pck deep t.no (isB t.kind) x.num x.dat.length x.parts.length (plE8 utf flE t.kind t.least t.most x):=by
 unfold slT slN;rw[if_neg h8,if_neg h9]
theorem frsT_drop (f:VT→Option Flt3) {xs:List VT} {k:Nat} (h:k<xs.length):frsT f (xs.drop k)=match f (gvt xs k) with
 |some e=>some e
 |none=>frsT f (xs.drop (k+1)):=by
 rw[vdrop xs k h,frsT]
end
def htT:List Slt→Int
 |[]=>0
 | .mk _ _ _ _ sub::ts=>max (htT sub+1) (htT ts)
theorem htT_pos:∀ts,0≤htT ts
 |[]=>by rw[htT];omega
 | .mk _ _ _ _ sub::ts=>by rw[htT];have:=htT_pos ts;omega
theorem htT_sub:∀(ts:List Slt) (i:Nat),i<ts.length→htT (gs ts i).sub+1≤htT ts
 |[],_,h=>by simp at h
 | .mk n k a b sub::ts,0,_=>by
  rw[htT]
  show htT sub+1≤_
  omega
 | .mk n k a b sub::ts,i+1,h=>by
  have:=htT_sub ts i (by simpa using h)
  rw[htT]
  show htT (gs ts i).sub+1≤_
  omega
end Go.Proofs.YtmmlkfkpblokiaaGreatDoor
namespace Go.Proofs.YtmmlkfkpblokiaaGreatDoor
open Go Go.RowKit Go.Sort
attribute [local go_sem] setCell_drewN alloc_drewN
theorem a_lfits (n l m:Int) (hn:0≤n∧n<9223372036854775808) (y:Value) (w:World):Calls Tryz.prog 128 #[.agg #[.int .u64 l,.int .u64 m,y],.int .i64 n] w fun e w'=>e=.returned (.int .i64 (wth n l m))∧Below w.heap.size w w':=by
 have cW:=a_within n l m
 have hb:∀o,Below w.heap.size w (w.alloc o):=fun o=>(Below.refl _ _).alloc (Nat.le_refl _) _
 have r0:=hp1_0 w (.cells #[.int .u64 l,.int .u64 m,y] 190)
 have c0:(w.alloc (.cells #[.int .u64 l,.int .u64 m,y] 190)).cell? ⟨w.heap.size,0,none⟩=some (.int .u64 l):=by rw[cell_of_row _ _ _ _ _ _ r0];rfl
 have c1:(w.alloc (.cells #[.int .u64 l,.int .u64 m,y] 190)).cell? ⟨w.heap.size,1,none⟩=some (.int .u64 m):=by rw[cell_of_row _ _ _ _ _ _ r0];rfl
 replace hb:=hb (.cells #[.int .u64 l,.int .u64 m,y] 190)
 go_enter Tryz.func128,Tryz.ntmps128
 iterate 6 go_step
 generalize w.alloc (.cells #[.int .u64 l,.int .u64 m,y] 190)=w0 at *
 clear r0
 go_wp2_with (fail)
 refine(cW.at _).mono ?_;rintro e_ w1 ⟨rfl,hb1⟩;replace hb:=Below.after hb hb1
 go_wp2
 go_ret;exact⟨rfl,hb⟩
theorem a_inner1 (x:VR) (deep:Int) (hd: -9223372036854775808≤deep∧deep+1≤9223372036854775807) (g:Nat) (so:Option Addr) (sn sc:Nat) (w:World) (F:Option Flt3) (hg:Bx w g #[.slice so sn sc])
 (hC:∀V,Below w.heap.size w V→Calls Tryz.prog 33 #[.slice so sn sc,.agg (vrv x),.int .i64 (deep+1)] V fun e w'=>Gup V.heap.size F e w' (fun v=>v=.tuple #[])∧Below V.heap.size V w'):
 Calls Tryz.prog 123 #[.agg (vrv x),.int .i64 deep,ptr g] w fun e w'=>Gup w.heap.size F e w' (fun v=>v=.tuple #[])∧Below w.heap.size w w':=by
 obtain⟨T,hg⟩:=hg;have lg:=lt_of_row hg;obtain⟨xn,xda,xdl,xdc,xpa,xpl,xpc⟩:=x
 unfold vrv vrw at *
 have hb:Below w.heap.size w (w.alloc (.cells #[.int .u64 (xn:Int),.slice xda xdl xdc,.slice xpa xpl xpc] 27)):=(Below.refl _ _).alloc (Nat.le_refl _) _;have r0:=hp1_0 w (.cells #[.int .u64 (xn:Int),.slice xda xdl xdc,.slice xpa xpl xpc] 27);have rg:=keep hb hg;have cg:=cell_of_row _ _ 0 _ _ _ rg;have cF:=hC _ hb;unfold ptr;clear hC rg
 go_enter Tryz.func123,Tryz.ntmps123
 iterate 6 go_step
 generalize w.alloc (.cells #[.int .u64 (xn:Int),.slice xda xdl xdc,.slice xpa xpl xpc] 27)=w0 at *
 go_wp2_with (first|(refine wpList_load_want rfl 27 _ rfl w.heap.size rfl 27 #[.int .u64 (xn:Int),.slice xda xdl xdc,.slice xpa xpl xpc] (0,0) _ r0 Tryz.underlying27 rfl infoV ?_)|fail)
 refine cF.mono ?_;rintro e_ w1 ⟨hG,hb1⟩;have hsz:=hb.size;replace hb:=Below.after hb hb1
 cases F with
 |none=>
  obtain⟨v,rfl,rfl⟩:=hG
  go_wp2_with (fail)
  go_end0;exact⟨⟨_,rfl,rfl⟩,hb⟩
 |some f=>
  obtain⟨q,rfl,h1,h2⟩:=hG
  go_wp2
  exact⟨rfl,⟨q,rfl,Nat.le_trans hsz h1,h2⟩,hb⟩
def lsE (deep no l m:Int) (X:VT) (F:Option Flt3):Option Flt3:=if X.num≠0∨0<X.dat.length then some ⟨deep,no,84⟩ else if wth (X.parts.length:Int) l m≠0 then some ⟨deep,no,wth (X.parts.length:Int) l m⟩ else F
theorem a_listed1 {S:Nat→Prop} (x:VR) (X:VT) (deep no l m:Int) (hd: -9223372036854775808≤deep∧deep+1≤9223372036854775807) (g0 g1 g2:Nat) (y:Value) (so:Option Addr) (sn sc:Nat) (w:World) (f:VT→Option Flt3) (hX:VtM w S x X) (h0:Bx w g0 #[.int .i64 no]) (h1:Bx w g1 #[.int .u64 l,.int .u64 m,y]) (h2:Bx w g2 #[.slice so sn sc])
 (hC:∀V z Z,Below w.heap.size w V→VtM V S z Z→Calls Tryz.prog 33 #[.slice so sn sc,.agg (vrv z),.int .i64 (deep+1)] V fun e w'=>Gup V.heap.size (f Z) e w' (fun v=>v=.tuple #[])∧Below V.heap.size V w'):
 Calls Tryz.prog 127 #[.agg (vrv x),.int .i64 deep,ptr g0,ptr g1,ptr g2] w fun e w'=>Gup w.heap.size (lsE deep no l m X (frsT f X.parts)) e w' (fun v=>v=.tuple #[])∧Below w.heap.size w w':=by
 obtain⟨T0,h0⟩:=h0;obtain⟨T1,h1⟩:=h1;obtain⟨T2,h2⟩:=h2;have l0:=lt_of_row h0;have l1:=lt_of_row h1;have l2:=lt_of_row h2;obtain⟨en,enb,ed,edb,ep⟩:=hX.num_eq;obtain⟨xs,hP⟩:=hX.split;obtain⟨R,hR⟩:∃R,lsE deep no l m X (frsT f X.parts)=R:=⟨_,rfl⟩;rw[hR]
 generalize hps:X.parts=ps at *
 obtain⟨xn,xda,xdl,xdc,xpa,xpl,xpc⟩:=x;simp only at en enb ed edb ep hP;obtain⟨ao,cap,e,hxl,hcap,hpm,hrow,hvt⟩:=hP
 injection e with e1 e2 e3
 subst e1 e2 e3;have hb:Below w.heap.size w (w.alloc (.cells #[.int .u64 (xn:Int),.slice xda xdl xdc,.slice xpa ps.length xpc] 27)):=(Below.refl _ _).alloc (Nat.le_refl _) _;have r0:=hp1_0 w (.cells #[.int .u64 (xn:Int),.slice xda xdl xdc,.slice xpa ps.length xpc] 27);have h0':=keep hb h0;have h1':=keep hb h1;have c0:=cell_of_row _ _ 0 _ _ _ h0';have d0:=cell_of_row _ _ 0 _ _ _ r0;have d1:=cell_of_row _ _ 1 _ _ _ r0;have d2:=cell_of_row _ _ 2 _ _ _ r0;unfold vrv vrw ptr
 by_cases hbad:xn≠0∨0<xdl
 ·have eR:R=some ⟨deep,no,84⟩:=by rw[←hR,lsE,if_pos (by rw[←en,←ed];exact hbad)]
  have cG:=a_giveUp deep no 84
  replace eR:=hide eR;clear hC hrow hvt hX hR h1 h1' h2 hps en ed
  rcases Nat.eq_zero_or_pos xn with rfl|hnp
  ·have hq:decide ((xdl:Int)>0)=true:=by simp;omega
   go_enter Tryz.func127,Tryz.ntmps127
   iterate 6 go_step
   generalize w.alloc (.cells #[.int .u64 ((0:Nat):Int),.slice xda xdl xdc,.slice xpa ps.length xpc] 27)=w0 at *
   go_wp2_with (fail)
   refine(cG _).mono ?_;rintro e_ w2 ⟨⟨q,rfl,hql,hqr⟩,hb2⟩;have hsz:=hb.size;replace hb:=Below.after hb hb2
   go_wp2
   rw[eR.out];exact⟨rfl,⟨q,rfl,Nat.le_trans hsz hql,hqr⟩,hb⟩
  ·have hq:((xn:Int)==0)=false:=by simp;omega
   have hq2:¬(xn:Int)=0:=by omega
   go_enter Tryz.func127,Tryz.ntmps127
   iterate 6 go_step
   generalize w.alloc (.cells #[.int .u64 (xn:Int),.slice xda xdl xdc,.slice xpa ps.length xpc] 27)=w0 at *
   go_wp2_with (fail)
   refine(cG _).mono ?_;rintro e_ w2 ⟨⟨q,rfl,hql,hqr⟩,hb2⟩;have hsz:=hb.size;replace hb:=Below.after hb hb2
   go_wp2
   rw[eR.out];exact⟨rfl,⟨q,rfl,Nat.le_trans hsz hql,hqr⟩,hb⟩
 ·obtain⟨E,hE⟩:∃E,wth (ps.length:Int) l m=E:=⟨_,rfl⟩
  have cL:=a_lfits (ps.length:Int) l m (by omega) y
  rw[hE] at cL
  have infoLs:(Tryz.prog.info? 190).map (·.size)=some 3:=by kernel_rfl
  have eR0:R=if E≠0 then some ⟨deep,no,E⟩ else frsT f ps:=by rw[←hR,lsE,if_neg (by rw[←en,←ed];omega),hps,hE]
  clear hR en ed hX
  obtain rfl:xn=0:=by omega
  obtain rfl:xdl=0:=by omega
  clear hbad
  by_cases hz:E=0
  ·have eR:R=frsT f (ps.drop 0):=by rw[eR0,if_neg (by omega)];rfl
   subst hz
   replace eR:=hide eR;have H2:=hide h2;have HR:=hide hrow;have HV:=hide hvt;replace hE:=hide hE;clear eR0 h0 h1 h2 hrow hvt c0 h0' hps
   go_enter Tryz.func127,Tryz.ntmps127
   iterate 6 go_step
   generalize w.alloc (.cells #[.int .u64 ((0:Nat):Int),.slice xda 0 xdc,.slice xpa ps.length xpc] 27)=w0 at *
   go_wp2_with (first|(refine wpList_load_want rfl 190 _ rfl g1 rfl T1 #[.int .u64 l,.int .u64 m,y] (0,0) _ h1' Tryz.underlying190 rfl infoLs ?_)|fail)
   refine(cL _).mono ?_;rintro e_ w1 ⟨rfl,hb1⟩;replace r0:=keep hb1 r0;have d2':=cell_of_row _ _ 2 _ _ _ r0;replace hb:=Below.after hb hb1;clear d0 d1 d2 h1' cL hb1
   go_wp2_with (fail)
   go_loopw [36,9] (fun i _ wr=>∃k:Nat,k≤ps.length∧i=.int .i64 k∧R=frsT f (ps.drop k)∧Below w.heap.size w wr) (fun i _ _=>ps.length-(intOf i).toNat)
   case atStart=>exact⟨0,by omega,rfl,eR.out,hb⟩
   case round=>
    clear r0 hb eR d2';obtain⟨k,hk,rfl,eR,hb⟩:=hrel
    by_cases hlt:k<ps.length
    ·have hd2:decide ((k:Int)<(ps.length:Int))=true:=by simp;omega
     obtain⟨b,off,hxe,hbl,hra⟩:=HR.out k hlt
     subst hxe;have hvz:=(HV.out k hlt).blw hb;have hpw:=rangeS_keep2 hra hb hbl;rw[frsT_drop f hlt] at eR
     have hcc:=fun V hV (hz:VtM V S (gx xs k) (gvt ps k))=>hC V _ _ hV hz
     obtain⟨Fk,hFk⟩:∃Fk,f (gvt ps k)=Fk:=⟨_,rfl⟩;rw[hFk] at eR hcc;clear hFk hra HR HV hC
     generalize gvt ps k=Z at *
     generalize gx xs k=z at *
     obtain⟨zn,zda,zdl,zdc,zpa,zpl,zpc⟩:=z
     unfold vrv vrw at *
     have hba:Below wr.heap.size wr (wr.alloc (.cells #[.int .u64 0,nS,nS] 27)):=(Below.refl _ _).alloc (Nat.le_refl _) _;have rS:=hp1_0 wr (.cells #[.int .u64 0,nS,nS] 27);have hbb:=below_setRow (g:=wr.heap.size) hba (Nat.le_refl _) #[.int .u64 (zn:Int),.slice zda zdl zdc,.slice zpa zpl zpc];have rS2:=setRow_heap _ wr.heap.size _ #[.int .u64 (zn:Int),.slice zda zdl zdc,.slice zpa zpl zpc] _ _ rS;have hvz2:=hvz.blw hbb;have hbw:=Below.after hb hbb;have cg2:=cell_of_row _ _ 0 _ _ _ (keep hbw H2.out)
     have hone:(#[.int .u64 (zn:Int),.slice zda zdl zdc,.slice zpa zpl zpc]:Array Value).all (·.oneCell')=true:=by simp[Value.oneCell']
     have A1:=hide hvz2;have A2:=hide hbw;have A3:=hide rS2;have A4:=hide hcc;have A5:=hide eR;have A6:=hide cg2;clear hvz hvz2 hbw rS2 hcc eR cg2 hba hbb hb
     go_wp2_with (first|(refine wpList_load_mid rfl 27 _ rfl b (off+k*3) rfl _ _ hpw Tryz.underlying27 rfl infoV ?_)|(refine wpList_store_row rfl 27 _ _ rfl wr.heap.size #[.int .u64 (zn:Int),.slice zda zdl zdc,.slice zpa zpl zpc] rfl rfl 27 _ rS infoV rfl hone ?_;refine wpList_stay ?_)|fail)
     unfold WpStay
     generalize (wr.alloc (.cells #[.int .u64 0,nS,nS] 27)).setRow wr.heap.size #[.int .u64 (zn:Int),.slice zda zdl zdc,.slice zpa zpl zpc]=w2 at *
     have cg2:=A6.out;have rS2:=A3.out;clear rS A6 A3 hpw
     go_wp2_with (first|(refine wpList_load_want rfl 27 _ rfl wr.heap.size rfl 27 #[.int .u64 (zn:Int),.slice zda zdl zdc,.slice zpa zpl zpc] (0,0) _ rS2 Tryz.underlying27 rfl infoV ?_)|fail)
     refine(A4.out _ A2.out A1.out).mono ?_;rintro e_ w3 ⟨hGk,hb3⟩;have hsz:=A2.out.size;have hb:=Below.after A2.out hb3;clear A1 A2 A4 hb3 cg2 rS2
     cases Fk with
     |none=>
      obtain⟨v,rfl,rfl⟩:=hGk
      go_wp2_with (fail)
      refine⟨⟨k+1,by omega,by go_num,A5.out,hb⟩,?_⟩
      simp[intOf];omega
     |some f'=>
      obtain⟨q,rfl,h1,h2⟩:=hGk
      go_wp2
      rw[A5.out];exact⟨rfl,⟨q,rfl,Nat.le_trans hsz h1,h2⟩,hb⟩
    ·have hd2:decide ((k:Int)<(ps.length:Int))=false:=by simp;omega
     obtain rfl:k=ps.length:=by omega
     rw[List.drop_length,frsT] at eR;replace eR:=hide eR;clear HR HV hC
     go_wp2_with (fail)
     go_end0;rw[eR.out];exact⟨⟨_,rfl,rfl⟩,hb⟩
  ·have eR:R=some ⟨deep,no,E⟩:=by rw[eR0,if_pos hz]
   have cG:=a_giveUp deep no E
   have hz2:(E==0)=false:=by simpa using hz
   replace eR:=hide eR;clear hC hrow hvt eR0 h1 h2 hps c0
   go_enter Tryz.func127,Tryz.ntmps127
   iterate 6 go_step
   generalize w.alloc (.cells #[.int .u64 ((0:Nat):Int),.slice xda 0 xdc,.slice xpa ps.length xpc] 27)=w0 at *
   go_wp2_with (first|(refine wpList_load_want rfl 190 _ rfl g1 rfl T1 #[.int .u64 l,.int .u64 m,y] (0,0) _ h1' Tryz.underlying190 rfl infoLs ?_)|fail)
   refine(cL _).mono ?_;rintro e_ w1 ⟨rfl,hb1⟩;have c0:=cell_of_row _ _ 0 _ _ _ (keep hb1 h0');replace hb:=Below.after hb hb1;clear d0 d1 d2 h1' cL hb1 h0' r0
   go_wp2_with (fail)
   refine(cG _).mono ?_;rintro e_ w2 ⟨⟨q,rfl,hql,hqr⟩,hb2⟩;have hsz:=hb.size;replace hb:=Below.after hb hb2
   go_wp2
   rw[eR.out];exact⟨rfl,⟨q,rfl,Nat.le_trans hsz hql,hqr⟩,hb⟩
end Go.Proofs.YtmmlkfkpblokiaaGreatDoor
