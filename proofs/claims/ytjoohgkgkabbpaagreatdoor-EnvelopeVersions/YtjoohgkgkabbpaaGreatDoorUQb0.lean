import Derived.Test.YtjoohgkgkabbpaaGreatDoorUQa8
import Derived.Test.YtjoohgkgkabbpaaGreatDoorUUa
namespace Go.Proofs.YtjoohgkgkabbpaaGreatDoor
set_option maxRecDepth 100000
open Go Go.RowKit Go.Sort
attribute [local go_sem] setCell_drewN alloc_drewN
theorem wp_call_up {P : Program} {o : Oper} {a : Act} {w : World} {K : Act → World → Prop} {Q : Exit → Act → World → Prop} {f : FuncId} {args : Array Value} {base : Nat} {F : Option Flt3} {R : Value → Prop} {B : World → Prop} (hx : (execOp a.eval o).run P w = .ok (.enter f args) w)
 (c : Calls P f args w fun e w' => Gup base F e w' R ∧ B w') (h : F = none → ∀ v w', R v → B w' → K (a.put o.dst v) w')
 (hp : ∀ x, F = some x → ∀ g w', base ≤ g → w'.heap[g]? = some (.cells (frw x) 35 (0, 0)) → B w' → Q (.panic [{ v := .iface 87 (.pointer (some ⟨g, 0, none⟩)), recovered := false }]) a w') : o.wp P a w K Q := by
 unfold Oper.wp
 rw [hx, Oper.upon_enter]
 refine c.mono fun e w' ⟨hG, hB⟩ => ?_
 cases F with
 | none =>
  obtain ⟨v, rfl, hv⟩ := hG
  exact h rfl v w' hv hB
 | some x =>
  obtain ⟨g, rfl, h1, h2⟩ := hG
  exact hp x rfl g w' h1 h2 hB
theorem run_call_val {P : Program} {o : Oper} {ρ : Operand → Value} {w : World} {f : FuncId} {caps : Array Value} (x : Operand) (ys : Array Operand) (ats : Array TypeId) (ho : o.op = .call { callee := .value x, args := ys, argTypes := ats }) (hx : ρ x = .func (.func f) #[] caps) (args : Array Value) (hys : ys.map ρ = args) (hent : ∀ args W, (callFunc f args).run P W = .ok (.enter f args) W) : (execOp ρ o).run P w = .ok (.enter f (args ++ caps)) w := by
 unfold execOp
 simp only [ho, resolve, hx, hys, Deferred.ofValue, invoke, Sem.run_bind, Sem.run_pure, Result.andThen_ok, hent, Array.empty_append]
structure VR where
 num : Nat
 da : Option Addr
 dl : Nat
 dc : Nat
 pa : Option Addr
 pl : Nat
 pc : Nat
def vrv (x : VR) : Array Value := vrw x.num (.slice x.da x.dl x.dc) (.slice x.pa x.pl x.pc)
def vr0 : VR := ⟨0, none, 0, 0, none, 0, 0⟩
def gx (xs : List VR) (i : Nat) : VR := xs.getD i vr0
def Prt (W : World) (v : Value) (xs : List VR) : Prop := ∃ ao cap, v = .slice ao xs.length cap ∧ xs.length ≤ cap ∧ (∀ i, i < xs.length → (gx xs i).num < 18446744073709551616 ∧ (gx xs i).dl < 9223372036854775808) ∧ ∀ i, i < xs.length → ∃ b off, ao = some ⟨b, off, none⟩ ∧ b < W.heap.size ∧ W.rangeAt b (off + i * 3) (vrv (gx xs i)).toList
theorem Prt.keep {W V : World} {v : Value} {xs : List VR} (h : Prt W v xs) (hb : Below W.heap.size W V) : Prt V v xs := by
 obtain ⟨ao, cap, e, hc, hn, h⟩ := h
 refine ⟨ao, cap, e, hc, hn, fun i hi => ?_⟩
 obtain ⟨b, off, h1, h2, h3⟩ := h i hi
 exact ⟨b, off, h1, Nat.lt_of_lt_of_le h2 hb.size, rangeS_keep2 h3 hb h2⟩
def Fla (t : Slt) : Prop := t.kind = 1 ∨ t.kind = 2 ∨ t.kind = 3 ∨ t.kind = 4 ∨ t.kind = 5
def ftE (t : Slt) (x : VR) : Int := if t.kind = 5 then wth (x.dl : Int) (t.least : Int) (t.most : Int) else if t.kind = 4 then wth (x.num : Int) 0 1 else wth (x.num : Int) (t.least : Int) (t.most : Int)
def pckT (deep : Int) (t : Slt) (x : VR) : Option Flt3 := pck deep t.no (t.kind == 5) x.num x.dl x.pl (ftE t x)
def chF : List Slt → List VR → Int → Option Flt3
 | t :: ts, x :: xs, deep => match pckT deep t x with
  | some f => some f
  | none => chF ts xs deep
 | _, _, _ => none
theorem ent_plain1 (args : Array Value) (W : World) : (callFunc 157 args).run Tryz.prog W = .ok (.enter 157 args) W := by kernel_rfl
theorem a_slotCheck {W : World} {S : Nat → Prop} {t : Slt} {u : Value} {row : Array Value} (h : SlC W S t u row) (hf : Fla t) : ∃ wt k1 k2 k3 a1 a2 a3, row = rdv t.no wt k1 k2 k3 a1 a2 a3 ∧ (∀ args W, (callFunc k1 args).run Tryz.prog W = .ok (.enter k1 args) W) ∧
 ∀ (x : VR) (deep : Int) (w : World), x.dl < 9223372036854775808 → Below W.heap.size W w → Calls Tryz.prog k1 (#[.agg (vrv x), .int .i64 deep] ++ a1) w fun e w' => Gup w.heap.size (pckT deep t x) e w' (fun v => v = .tuple #[]) ∧ Below w.heap.size w w' := by
 have num : ∀ (wt l m : Int), PlC W S t.no wt 141 #[.int .i64 wt, .int .u64 l, .int .u64 m] row → wt ≠ 2 → t.kind ≠ 5 → (∀ x : VR, ftE t x = wth (x.num : Int) l m) → ∃ wt k1 k2 k3 a1 a2 a3, row = rdv t.no wt k1 k2 k3 a1 a2 a3 ∧ (∀ args W, (callFunc k1 args).run Tryz.prog W = .ok (.enter k1 args) W) ∧
  ∀ (x : VR) (deep : Int) (w : World), x.dl < 9223372036854775808 → Below W.heap.size W w → Calls Tryz.prog k1 (#[.agg (vrv x), .int .i64 deep] ++ a1) w fun e w' => Gup w.heap.size (pckT deep t x) e w' (fun v => v = .tuple #[]) ∧ Below w.heap.size w w' := by
  intro wt l m ⟨g0, g1, g2, g4, gs, e, h0, h1, h2, h4, h5⟩ hwt hk5 hE
  refine ⟨wt, _, _, _, _, _, _, e, ent_plain1, fun x deep w hx hb => ?_⟩
  have hb2 : (wt == 2) = false := by simpa using hwt
  rw [hb2] at h4
  have he : pckT deep t x = pck deep t.no false x.num x.dl x.pl (wth (x.num : Int) l m) := by
   unfold pckT
   rw [hE x, show (t.kind == 5) = false by simpa using hk5]
  rw [he]
  exact a_plain1 _ (.inl rfl) x.num x.da x.dl x.dc x.pa x.pl x.pc deep t.no false _ g4 g0 g2 gs w (h4.2.keep hb) (h0.2.keep hb) (h2.2.keep hb) (fun V hV => a_fitNum x.num x.da x.dl x.dc x.pa x.pl x.pc wt l m gs V (h5.2.keep (Below.after hb hV)))
 rcases h with ⟨hk, h⟩ | ⟨hk, h⟩ | ⟨hk, h⟩ | ⟨hk, h⟩ | ⟨hk, h⟩ | ⟨hk, h⟩ | ⟨hk, h⟩ | ⟨hk, h⟩
 ·exact num 0 _ _ h (by decide) (by omega) (fun x => by unfold ftE; rw [if_neg (by omega), if_neg (by omega)])
 ·exact num 5 _ _ h (by decide) (by omega) (fun x => by unfold ftE; rw [if_neg (by omega), if_neg (by omega)])
 ·exact num 1 _ _ h (by decide) (by omega) (fun x => by unfold ftE; rw [if_neg (by omega), if_neg (by omega)])
 ·exact num 0 _ _ h (by decide) (by omega) (fun x => by unfold ftE; rw [if_neg (by omega), if_pos hk])
 ·have hk5 : t.kind = 5 := by rcases hk with q | q; exact q; rcases hf with q2 | q2 | q2 | q2 | q2 <;> omega
  obtain ⟨g0, g1, g2, g4, gs, e, h0, h1, h2, h4, h5⟩ := h
  refine ⟨2, _, _, _, _, _, _, e, ent_plain1, fun x deep w hx hb => ?_⟩
  have he : pckT deep t x = pck deep t.no true x.num x.dl x.pl (wth (x.dl : Int) (t.least : Int) (t.most : Int)) := by
   unfold pckT ftE
   rw [if_pos hk5, show (t.kind == 5) = true by simpa using hk5]
  rw [he]
  rw [show (t.kind == 6) = false by rw [hk5]; rfl] at h5
  exact a_plain1 _ (.inr (.inr rfl)) x.num x.da x.dl x.dc x.pa x.pl x.pc deep t.no true _ g4 g0 g2 gs w (h4.2.keep hb) (h0.2.keep hb) (h2.2.keep hb) (fun V hV => a_fitOct x.num x.da x.dl x.dc x.pa x.pl x.pc _ _ hx gs V (h5.2.keep (Below.after hb hV)))
 ·exfalso; rcases hf with q2 | q2 | q2 | q2 | q2 <;> omega
 ·exfalso; rcases hf with q2 | q2 | q2 | q2 | q2 <;> omega
 ·exfalso; rcases hf with q2 | q2 | q2 | q2 | q2 <;> omega
end Go.Proofs.YtjoohgkgkabbpaaGreatDoor
namespace Go.Proofs.YtjoohgkgkabbpaaGreatDoor
set_option maxRecDepth 100000
open Go Go.RowKit Go.Sort
attribute [local go_sem] setCell_drewN alloc_drewN
def ckF (ts : List Slt) (n dl : Nat) (xs : List VR) (deep : Int) : Option Flt3 := if n ≠ 0 ∨ 0 < dl then some ⟨deep, 0, 84⟩ else if xs.length ≠ ts.length then some ⟨deep, 0, 81⟩ else chF ts xs deep
theorem chF_drop {ts : List Slt} {xs : List VR} {deep : Int} {k : Nat} (h1 : k < ts.length) (h2 : k < xs.length) : chF (ts.drop k) (xs.drop k) deep = match pckT deep (gs ts k) (gx xs k) with
 | some f => some f
 | none => chF (ts.drop (k + 1)) (xs.drop (k + 1)) deep := by
 rw [sdrop ts k h1, List.drop_eq_getElem_cons h2, chF]
 have e : xs[k] = gx xs k := by simp [gx, List.getD_eq_getElem?_getD, List.getElem?_eq_getElem h2]
 rw [e]
 try (cases pckT deep (gs ts k) (gx xs k) <;> rfl)
theorem infoSt' : (Tryz.prog.info? 166).map (·.size) = some 5 := by kernel_rfl
set_option maxRecDepth 100000 in
set_option maxHeartbeats 8000000 in
theorem a_checkF {W : World} {S : Nat → Prop} {v : Value} {ts : List Slt} (h : RdL W S v ts) (hfl : ∀ i, i < ts.length → Fla (gs ts i)) (n : Nat) (hn : n < 18446744073709551616) (da : Option Addr) (dl dc : Nat) (pv : Value) (xs : List VR) (deep : Int) (w : World) (hw : Below W.heap.size W w) (hP : Prt w pv xs) :
 Calls Tryz.prog 103 #[v, .agg (vrw n (.slice da dl dc) pv), .int .i64 deep] w fun e w' => Gup w.heap.size (ckF ts n dl xs deep) e w' (fun v => v = .tuple #[]) ∧ Below w.heap.size w w' := by
 cases h with
 | mk ao cap ts rows us hl hc hnn h hs =>
  clear hs
  obtain ⟨pa, pc, rfl, hpc, hpn, hpr⟩ := hP
  have hb0 : Below w.heap.size w (w.alloc (.cells (vrw n (.slice da dl dc) (.slice pa xs.length pc)) 78)) := (Below.refl _ _).alloc (Nat.le_refl _) _
  have rV := hp1_0 w (.cells (vrw n (.slice da dl dc) (.slice pa xs.length pc)) 78)
  obtain ⟨R, hR⟩ : ∃ R, ckF ts n dl xs deep = R := ⟨_, rfl⟩
  rw [hR]
  unfold vrw at rV hb0 ⊢
  by_cases hbad : n ≠ 0 ∨ 0 < dl
  ·have eR : R = some ⟨deep, 0, 84⟩ := by rw [← hR, ckF, if_pos hbad]
   have cG := a_giveUp deep 0 84
   replace eR := hide eR
   rcases Nat.eq_zero_or_pos n with rfl | hnp
   ·have hd : decide ((dl : Int) > 0) = true := by simp; omega
    go_enter Tryz.func103, Tryz.ntmps103
    go_wp2_with (fail)
    refine (cG _).mono ?_
    rintro e_ w2 ⟨⟨g, rfl, hgl, hgr⟩, hb2⟩
    replace hb2 := Below.after hb0 hb2
    go_wp2
    rw [eR.out]
    exact ⟨rfl, ⟨g, rfl, Nat.le_trans hb0.size hgl, hgr⟩, hb2⟩
   ·have hd : ((n : Int) == 0) = false := by simp; omega
    have hd2 : ¬ (n : Int) = 0 := by omega
    go_enter Tryz.func103, Tryz.ntmps103
    go_wp2_with (fail)
    refine (cG _).mono ?_
    rintro e_ w2 ⟨⟨g, rfl, hgl, hgr⟩, hb2⟩
    replace hb2 := Below.after hb0 hb2
    go_wp2
    rw [eR.out]
    exact ⟨rfl, ⟨g, rfl, Nat.le_trans hb0.size hgl, hgr⟩, hb2⟩
  ·obtain rfl : n = 0 := by omega
   obtain rfl : dl = 0 := by omega
   by_cases hln : xs.length = ts.length
   ·have eR : R = chF (ts.drop 0) (xs.drop 0) deep := by rw [← hR, ckF, if_neg (by omega), if_neg (by omega)]; rfl
    have hle3 := hide hln
    rw [hln] at rV hb0 ⊢
    clear hR hbad
    rw [hln] at hpc
    clear hln
    replace eR := hide eR
    go_enter Tryz.func103, Tryz.ntmps103
    go_wp2_with (fail)
    generalize w.alloc (.cells #[.int .u64 ((0 : Nat) : Int), .slice da 0 dc, .slice pa ts.length pc] 78) = w0 at *
    go_loopw [29, 6, 7] (fun i _ _ wr => ∃ k : Nat, k ≤ ts.length ∧ i = .int .i64 k ∧ R = chF (ts.drop k) (xs.drop k) deep ∧ Below w.heap.size w wr ∧ wr.heap[w.heap.size]? = some (.cells #[.int .u64 ((0 : Nat) : Int), .slice da 0 dc, .slice pa ts.length pc] 78 (0, 0))) (fun i _ _ _ => ts.length - (intOf i).toNat)
    case atStart => exact ⟨0, by omega, rfl, eR.out, hb0, rV⟩
    case round =>
     clear rV hb0 eR
     obtain ⟨k, hk, rfl, eR, hb, rV⟩ := hrel
     have hww := Below.after hw hb
     by_cases hlt : k < ts.length
     ·have hd : decide ((k : Int) < (ts.length : Int)) = true := by simp; omega
      have hlx := hle3.out
      obtain ⟨b, rfl, hbl, _, hra, hSl⟩ := h k hlt
      obtain ⟨pb, poff, rfl, hpb, hpra⟩ := hpr k (by omega)
      obtain ⟨wt, k1, k2, k3, a1, a2, a3, hrow, hent, hcall⟩ := a_slotCheck hSl (hfl k hlt)
      rw [hrow] at hra
      have hrw := rangeS_keep2 hra hww hbl
      have hpw := rangeS_keep2 hpra hb hpb
      rw [chF_drop hlt (by omega)] at eR
      have hdl := (hpn k (by omega)).2
      have cC := fun V hV => hcall (gx xs k) deep V hdl hV
      have hlb := lt_of_row rV
      have hba : Below wr.heap.size wr (wr.alloc (.cells #[.int .i64 0, .int .i64 0, .nilFunc, .nilFunc, .nilFunc] 166)) := (Below.refl _ _).alloc (Nat.le_refl _) _
      have rS := hp1_0 wr (.cells #[.int .i64 0, .int .i64 0, .nilFunc, .nilFunc, .nilFunc] 166)
      have hbb := below_setRow (g := wr.heap.size) hba (Nat.le_refl _) (rdv (gs ts k).no wt k1 k2 k3 a1 a2 a3)
      have rS2 := setRow_heap _ wr.heap.size _ (rdv (gs ts k).no wt k1 k2 k3 a1 a2 a3) _ _ rS
      replace rV := keep hbb rV
      replace hpw := rangeS_keep2 hpw hbb (Nat.lt_of_lt_of_le hpb hb.size)
      have hpb2 := Nat.lt_of_lt_of_le hpb hb.size
      replace hb := Below.after hb hbb
      replace hww := Below.after hww hbb
      generalize (gs ts k).no = no at *
      obtain ⟨F, hF⟩ : ∃ F, pckT deep (gs ts k) (gx xs k) = F := ⟨_, rfl⟩
      rw [hF] at eR cC
      generalize gx xs k = x at *
      obtain ⟨xn, xda, xdl, xdc, xpa, xpl, xpc⟩ := x
      have eR2 := hide eR
      have A1 := hide rV
      have A2 := hide hpw
      have A3 := hide hb
      have A4 := hide hww
      have A5 := hide rS2
      have A6 := hide cC
      have hone : (rdv no wt k1 k2 k3 a1 a2 a3).all (·.oneCell') = true := by simp [rdv, Value.oneCell']
      clear eR rV hpw hb hww rS2 cC hF hcall hSl hrow hra hpra h hpr hfl hpn hba hbb
      unfold rdv vrv vrw at *
      go_wp2_with (first | (refine wpList_load_mid rfl 166 _ rfl b (k * 5) rfl _ _ hrw Tryz.underlying166 rfl infoSt' ?_) | (refine wpList_store_row rfl 166 _ _ rfl wr.heap.size #[.int .i64 no, .int .i64 wt, .func (.func k1) #[] a1, .func (.func k2) #[] a2, .func (.func k3) #[] a3] rfl rfl 166 _ rS infoSt' rfl hone ?_) | fail)
      have hS0 : (fun W : World => W.heap[wr.heap.size]? = some (.cells #[.int .i64 no, .int .i64 wt, .func (.func k1) #[] a1, .func (.func k2) #[] a2, .func (.func k3) #[] a3] 166 (0, 0)) ∧ W.heap[w.heap.size]? = some (.cells #[.int .u64 ((0 : Nat) : Int), .slice da 0 dc, .slice (some ⟨pb, poff, none⟩) ts.length pc] 78 (0, 0)) ∧ W.rangeAt pb (poff + k * 3) [.int .u64 (xn : Int), .slice xda xdl xdc, .slice xpa xpl xpc]) _ := ⟨A5.out, A1.out, A2.out⟩
      refine wp_region_held (S := fun W : World => W.heap[wr.heap.size]? = some (.cells #[.int .i64 no, .int .i64 wt, .func (.func k1) #[] a1, .func (.func k2) #[] a2, .func (.func k3) #[] a3] 166 (0, 0)) ∧ W.heap[w.heap.size]? = some (.cells #[.int .u64 ((0 : Nat) : Int), .slice da 0 dc, .slice (some ⟨pb, poff, none⟩) ts.length pc] 78 (0, 0)) ∧ W.rangeAt pb (poff + k * 3) [.int .u64 (xn : Int), .slice xda xdl xdc, .slice xpa xpl xpc]) (by kernel_rfl) ?_
      change wpAnyH _ _ _ _ _ _ _ _ (World.drew _)
      generalize (wr.alloc (.cells #[.int .i64 0, .int .i64 0, .nilFunc, .nilFunc, .nilFunc] 166)).setRow wr.heap.size #[.int .i64 no, .int .i64 wt, .func (.func k1) #[] a1, .func (.func k2) #[] a2, .func (.func k3) #[] a3] = w2 at *
      have hbd : Below w2.heap.size w2 w2.drew := below_drN (Below.refl _ _) 1
      replace hS0 : (fun W : World => W.heap[wr.heap.size]? = some (.cells #[.int .i64 no, .int .i64 wt, .func (.func k1) #[] a1, .func (.func k2) #[] a2, .func (.func k3) #[] a3] 166 (0, 0)) ∧ W.heap[w.heap.size]? = some (.cells #[.int .u64 ((0 : Nat) : Int), .slice da 0 dc, .slice (some ⟨pb, poff, none⟩) ts.length pc] 78 (0, 0)) ∧ W.rangeAt pb (poff + k * 3) [.int .u64 (xn : Int), .slice xda xdl xdc, .slice xpa xpl xpc]) w2.drew := hS0
      have hb := Below.after A3.out hbd
      have hww := Below.after A4.out hbd
      clear A1 A2 A3 A4 A5 hbd
      generalize w2.drew = w3 at *
      refine wpAnyH_take (i := 0) (v := ?v1) rfl (by kernel_rfl) (by kernel_rfl) (by kernel_rfl) (fun _ _ _ h => h) (Or.inl ⟨by rfl, ?y1⟩) hS0 ?r1
      case y1 =>
       intro w_ hS_
       go_simp
       try with_reducible rfl
      simp only [Act.put, List.getElem_toArray, List.getElem_cons_zero, List.setIfInBounds_toArray, List.set_cons_succ, List.set_cons_zero]
      refine wpAnyH_take (i := 1) (v := .func (.func k1) #[] a1) rfl (by kernel_rfl) (by kernel_rfl) (by kernel_rfl) (fun _ _ _ h => h) (Or.inl ⟨by rfl, ?y2⟩) hS0 ?r2
      case y2 =>
       intro w_ hS_
       have c_ := cell_of_row _ _ 2 _ _ _ hS_.1
       go_simp
       try with_reducible rfl
      simp only [Act.put, List.getElem_toArray, List.getElem_cons_succ, List.getElem_cons_zero, List.setIfInBounds_toArray, List.set_cons_succ, List.set_cons_zero]
      refine wpAnyH_take (i := 2) (v := ?v3) rfl (by kernel_rfl) (by kernel_rfl) (by kernel_rfl) (fun _ _ _ h => h) (Or.inl ⟨by rfl, ?y3⟩) hS0 ?r3
      case y3 =>
       intro w_ hS_
       go_simp
       try with_reducible rfl
      simp only [Act.put, List.getElem_toArray, List.getElem_cons_succ, List.getElem_cons_zero, List.setIfInBounds_toArray, List.set_cons_succ, List.set_cons_zero]
      refine wpAnyH_take (i := 3) (v := .slice (some ⟨pb, poff, none⟩) ts.length pc) rfl (by kernel_rfl) (by kernel_rfl) (by kernel_rfl) (fun _ _ _ h => h) (Or.inl ⟨by rfl, ?y4⟩) hS0 ?r4
      case y4 =>
       intro w_ hS_
       have c_ := cell_of_row _ _ 2 _ _ _ hS_.2.1
       go_simp
       try with_reducible rfl
      simp only [Act.put, List.getElem_toArray, List.getElem_cons_succ, List.getElem_cons_zero, List.setIfInBounds_toArray, List.set_cons_succ, List.set_cons_zero]
      refine wpAnyH_take (i := 4) (v := ?v5) rfl (by kernel_rfl) (by kernel_rfl) (by kernel_rfl) (fun _ _ _ h => h) (Or.inl ⟨by rfl, ?y5⟩) hS0 ?r5
      case y5 =>
       intro w_ hS_
       go_simp
       try with_reducible rfl
      simp only [Act.put, List.getElem_toArray, List.getElem_cons_succ, List.getElem_cons_zero, List.setIfInBounds_toArray, List.set_cons_succ, List.set_cons_zero]
      refine wpAnyH_take (i := 5) (v := ?v6) rfl (by kernel_rfl) (by kernel_rfl) (by kernel_rfl) (fun _ _ _ h => h) (Or.inl ⟨by rfl, ?y6⟩) hS0 ?r6
      case y6 =>
       intro w_ hS_
       go_simp
       try with_reducible rfl
      simp only [Act.put, List.getElem_toArray, List.getElem_cons_succ, List.getElem_cons_zero, List.setIfInBounds_toArray, List.set_cons_succ, List.set_cons_zero]
      refine wpAnyH_take (i := 6) (v := .agg #[.int .u64 (xn : Int), .slice xda xdl xdc, .slice xpa xpl xpc]) rfl (by kernel_rfl) (by kernel_rfl) (by kernel_rfl) (fun _ _ _ h => h) (yieldsIf_load_mid (by rfl) 78 _ rfl pb (poff + k * 3) rfl [.int .u64 (xn : Int), .slice xda xdl xdc, .slice xpa xpl xpc] _ (fun _ h => h.2.2) Tryz.underlying78 rfl infoV) hS0 ?_
      simp only [Act.put, List.getElem_toArray, List.getElem_cons_succ, List.getElem_cons_zero, List.setIfInBounds_toArray, List.set_cons_succ, List.set_cons_zero]
      refine wpAnyH_take (i := 7) (v := ?v7) rfl (by kernel_rfl) (by kernel_rfl) (by kernel_rfl) (fun _ _ _ h => h) (Or.inl ⟨by rfl, ?y7⟩) hS0 ?r7
      case y7 =>
       intro w_ hS_
       go_simp
       try with_reducible rfl
      simp only [Act.put, List.getElem_toArray, List.getElem_cons_succ, List.getElem_cons_zero, List.setIfInBounds_toArray, List.set_cons_succ, List.set_cons_zero]
      refine wpAnyH_one (k := 8) (fuel := 0) (by kernel_rfl) rfl (by kernel_rfl) (fun K_ hK => ?_)
      have c := A6.out w3 hww
      clear A6
      refine wp_call_up (base := w3.heap.size) (F := F) (R := fun v => v = .tuple #[]) (B := fun w' => Below w3.heap.size w3 w') ?hx c ?_ ?_
      case hx => exact run_call_val (.tmp 35) #[.tmp 40, .tmp 41] #[78, 3] rfl rfl _ (by simp only [List.map_toArray, List.map_cons, List.map_nil]; rfl) hent
      ·intro hF v_ w4 hv hb4
       subst hv
       subst hF
       have hl1 := lt_of_row hS0.1
       have hl2 := lt_of_row hS0.2.1
       refine hK _ _ ⟨keep hb4 hS0.1, keep hb4 hS0.2.1, rangeS_keep2 hS0.2.2 hb4 (Nat.lt_of_lt_of_le hpb2 (by omega))⟩ ?_
       simp only [Act.put, List.getElem_toArray, List.getElem_cons_succ, List.getElem_cons_zero, List.setIfInBounds_toArray, List.set_cons_succ, List.set_cons_zero]
       clear hK c
       replace hb := Below.after hb hb4
       have rV2 := keep hb4 hS0.2.1
       have B1 := hide hb
       have B2 := hide rV2
       clear hb rV2 hS0 hb4 hww
       refine wpAnyH_done (by kernel_rfl) ?_ _
       go_wp2_with (fail)
       refine ⟨⟨_, _, _, ⟨k + 1, by omega, by go_num, eR2.out, B1.out, B2.out⟩, rfl, rfl, rfl⟩, ?_⟩
       simp [intOf]; omega
      ·intro x hF g w4 h1 h2 hb4
       subst hF
       have hsz := hb.size
       replace hb := Below.after hb hb4
       go_wp2_with (fail)
       rw [eR2.out]
       exact ⟨rfl, ⟨g, rfl, by omega, h2⟩, hb⟩
     ·have hd : decide ((k : Int) < (ts.length : Int)) = false := by simp; omega
      obtain rfl : k = ts.length := by omega
      rw [List.drop_length, show chF [] (xs.drop ts.length) deep = none from rfl] at eR
      replace eR := hide eR
      clear h hpr hfl hpn
      go_wp2_with (fail)
      go_end0
      rw [eR.out]
      exact ⟨⟨_, rfl, rfl⟩, hb⟩
   ·have eR : R = some ⟨deep, 0, 81⟩ := by rw [← hR, ckF, if_neg (by omega), if_pos hln]
    have cG := a_giveUp deep 0 81
    have hle : ((xs.length : Int) == (ts.length : Int)) = false := by simp; omega
    have hle2 : ¬ (xs.length : Int) = (ts.length : Int) := by omega
    replace eR := hide eR
    go_enter Tryz.func103, Tryz.ntmps103
    go_wp2_with (fail)
    refine (cG _).mono ?_
    rintro e_ w2 ⟨⟨g, rfl, hgl, hgr⟩, hb2⟩
    replace hb2 := Below.after hb0 hb2
    go_wp2
    rw [eR.out]
    exact ⟨rfl, ⟨g, rfl, Nat.le_trans hb0.size hgl, hgr⟩, hb2⟩
end Go.Proofs.YtjoohgkgkabbpaaGreatDoor
namespace Go.Proofs.YtjoohgkgkabbpaaGreatDoor
set_option maxRecDepth 100000
open Go Go.RowKit Go.Sort
attribute [local go_sem] setCell_drewN alloc_drewN
def Cdc (W : World) (g : Nat) (ts : List Slt) : Prop := ∃ x, RdL W (fun _ => True) x ts ∧ W.heap[g]? = some (.cells #[x, .int .i64 ((prS ts).1 : Int), .int .i64 ((prS ts).2 : Int)] 120 (0, 0))
set_option maxRecDepth 100000 in
set_option maxHeartbeats 4000000 in
theorem a_Compile {W : World} {v : Value} {ts : List Slt} (h : Slo W v ts) (w : World) (hw : Below W.heap.size W w) : Calls Tryz.prog 69 #[v] w fun e w' => Below w.heap.size w w' ∧ ((vld ts = 0 ∧ ∃ g, e = .returned (.tuple #[.pointer (some ⟨g, 0, none⟩), .int .i64 0]) ∧ w.heap.size ≤ g ∧ Cdc w' g ts) ∨ (vld ts ≠ 0 ∧ e = .returned (.tuple #[.pointer none, .int .i64 (vld ts)]))) := by
 have cO := a_outline h w hw
 have hgd : vld ts = 0 → gd ts := fun h0 => by
  refine lft_gd ts 1 256 (by omega) ?_
  unfold vld at h0
  split at h0
  ·cases h0
  ·omega
 obtain ⟨ao, cap, rfl⟩ := h.form
 go_enter Tryz.func69, Tryz.ntmps69
 go_wp2_with (fail)
 refine cO.mono ?_
 rintro e_ w1 ⟨hb, hres⟩
 clear cO
 rcases hres with ⟨hv, m, rfl, hm⟩ | ⟨hv, rfl⟩
 ·have hg := hgd hv
  have cS := a_mspan hm.msg hg w1 (Below.refl _ _)
  have cC := fun V hV => a_compile hm hg V hV
  have hle := spL_le ts 0 0 (by omega) (by omega)
  rw [← prS_spL] at hle
  obtain ⟨hl1, hl2⟩ := hle
  have hcd : ∀ (V : World) (g : Nat) (x : Value), RdL V (fun _ => True) x ts → V.heap[g]? = some (.cells #[x, .int .i64 ((prS ts).1 : Int), .int .i64 ((prS ts).2 : Int)] 120 (0, 0)) → Cdc V g ts := fun V g x hr hx => ⟨x, hr, hx⟩
  generalize (prS ts).1 = A at *
  generalize (prS ts).2 = Bm at *
  have A1 := hide hcd
  have A2 := hide hv
  obtain ⟨mo, mc, rfl⟩ := hm.form
  clear hcd hv hgd hg hm
  go_wp2_with (fail)
  refine cS.mono ?_
  rintro e_ w2 ⟨rfl, hb2⟩
  clear cS
  go_wp2_with (fail)
  refine (cC w2 hb2).mono ?_
  rintro e_ w3 ⟨x, rfl, ⟨xo, xn, xc, rfl⟩, hb3, hRd⟩
  clear cC
  have hB := Below.after (Below.after hb hb2) hb3
  have q1 := A1.out (w3.alloc (.cells #[.slice xo xn xc, .int .i64 (A : Int), .int .i64 (Bm : Int)] 120)) w3.heap.size _ (hRd.keep ⟨by rw [size_alloc1]; omega, fun b hb _ => ⟨((Below.refl _ _).alloc (Nat.le_refl _) _ : Below w3.heap.size w3 (w3.alloc (.cells #[.slice xo xn xc, .int .i64 (A : Int), .int .i64 (Bm : Int)] 120))).block b hb, trivial⟩⟩) (hp1_0 w3 _)
  have hba : Below w3.heap.size w3 (w3.alloc (.cells #[.slice xo xn xc, .int .i64 (A : Int), .int .i64 (Bm : Int)] 120)) := (Below.refl _ _).alloc (Nat.le_refl _) _
  have A3 := hide q1
  have A4 := hide (Below.after hB hba)
  have A5 := hide hB
  clear q1 hba hB hb hb2 hb3 A1 hRd
  go_wp2_with (fail)
  go_ret2
  exact ⟨A4.out, .inl ⟨A2.out, _, rfl, A5.out.size, A3.out⟩⟩
 ·have hv' : (vld ts == 0) = false := beq_eq_false_iff_ne.2 hv
  generalize hx : vld ts = x at *
  replace hx := hide hx
  go_wp2_with (fail)
  go_ret2
  exact ⟨hb, .inr ⟨by rw [hx.out]; exact hv, by rw [hx.out]; rfl⟩⟩
theorem Cdc.keep {W V : World} {g : Nat} {ts : List Slt} (h : Cdc W g ts) (hb : Below W.heap.size W V) : Cdc V g ts := by
 obtain ⟨x, h1, h2⟩ := h
 exact ⟨x, h1.keep (Sty.below hb), (hb.block g (lt_of_row h2)).trans h2⟩
end Go.Proofs.YtjoohgkgkabbpaaGreatDoor
namespace Go.Proofs.YtjoohgkgkabbpaaGreatDoor
set_option maxRecDepth 100000
open Go Go.RowKit Go.Sort
attribute [local go_sem] setCell_drewN alloc_drewN
theorem range_row {W : World} {g : Nat} {c : Array Value} (h : Bx W g c) : W.rangeAt g 0 c.toList := fun j v hv => by
 obtain ⟨T, h⟩ := h
 rw [Nat.zero_add, cell_of_row _ _ _ _ _ _ h]
 simpa using hv
set_option maxRecDepth 100000 in
set_option maxHeartbeats 4000000 in
theorem a_check1 (F : Option Flt3) (bc bv g : Nat) (xo : Option Addr) (xn xc : Nat) (lo hi : Int) (n : Nat) (da : Option Addr) (dl dc : Nat) (pa : Option Addr) (pl pc : Nat) (w : World)
 (hc : Bx w bc #[.pointer (some ⟨g, 0, none⟩)]) (hv : Bx w bv #[.int .u64 (n : Int), .slice da dl dc, .slice pa pl pc]) (hg : Bx w g #[.slice xo xn xc, .int .i64 lo, .int .i64 hi])
 (cC : ∀ V, Below w.heap.size w V → Calls Tryz.prog 103 #[.slice xo xn xc, .agg #[.int .u64 (n : Int), .slice da dl dc, .slice pa pl pc], .int .i64 1] V fun e w' => Gup V.heap.size F e w' (fun v => v = .tuple #[]) ∧ Below V.heap.size V w') :
 Calls Tryz.prog 102 #[.pointer (some ⟨bc, 0, none⟩), .pointer (some ⟨bv, 0, none⟩)] w fun e w' => Gup w.heap.size F e w' (fun v => v = .tuple #[]) ∧ Below w.heap.size w w' := by
 go_enter Tryz.func102, Tryz.ntmps102
 have hS0 : (fun W : World => Bx W bc #[.pointer (some ⟨g, 0, none⟩)] ∧ Bx W bv #[.int .u64 (n : Int), .slice da dl dc, .slice pa pl pc] ∧ Bx W g #[.slice xo xn xc, .int .i64 lo, .int .i64 hi]) w := ⟨hc, hv, hg⟩
 refine wp_region_held (S := fun W : World => Bx W bc #[.pointer (some ⟨g, 0, none⟩)] ∧ Bx W bv #[.int .u64 (n : Int), .slice da dl dc, .slice pa pl pc] ∧ Bx W g #[.slice xo xn xc, .int .i64 lo, .int .i64 hi]) (by kernel_rfl) ?_
 change wpAnyH _ _ _ _ _ _ _ _ (World.drew _)
 have hbd : Below w.heap.size w w.drew := below_drN (Below.refl _ _) 1
 replace hS0 : (fun W : World => Bx W bc #[.pointer (some ⟨g, 0, none⟩)] ∧ Bx W bv #[.int .u64 (n : Int), .slice da dl dc, .slice pa pl pc] ∧ Bx W g #[.slice xo xn xc, .int .i64 lo, .int .i64 hi]) w.drew := hS0
 have cC2 : Calls Tryz.prog 103 #[.slice xo xn xc, .agg #[.int .u64 (n : Int), .slice da dl dc, .slice pa pl pc], .int .i64 1] w.drew fun e w' => Gup w.heap.size F e w' (fun v => v = .tuple #[]) ∧ Below w.heap.size w w' := (cC w.drew hbd).mono fun e w' h => ⟨h.1, Below.after hbd h.2⟩
 clear cC
 refine wpAnyH_take (i := 0) (v := .pointer (some ⟨g, 0, none⟩)) rfl (by kernel_rfl) (by kernel_rfl) (by kernel_rfl) (fun _ _ _ h => h) (Or.inl ⟨by rfl, ?y1⟩) hS0 ?r1
 case y1 =>
  intro w_ hS_
  obtain ⟨_, h_⟩ := hS_.1
  have c_ := cell_of_row _ _ 0 _ _ _ h_
  go_simp
  try with_reducible rfl
 simp only [Act.put, List.getElem_toArray, List.getElem_cons_zero, List.setIfInBounds_toArray, List.set_cons_succ, List.set_cons_zero]
 refine wpAnyH_take (i := 1) (v := ?v2) rfl (by kernel_rfl) (by kernel_rfl) (by kernel_rfl) (fun _ _ _ h => h) (Or.inl ⟨by rfl, ?y2⟩) hS0 ?r2
 case y2 =>
  intro w_ hS_
  go_simp
  try with_reducible rfl
 simp only [Act.put, List.getElem_toArray, List.getElem_cons_succ, List.getElem_cons_zero, List.setIfInBounds_toArray, List.set_cons_succ, List.set_cons_zero]
 refine wpAnyH_take (i := 2) (v := ?v3) rfl (by kernel_rfl) (by kernel_rfl) (by kernel_rfl) (fun _ _ _ h => h) (Or.inl ⟨by rfl, ?y3⟩) hS0 ?r3
 case y3 =>
  intro w_ hS_
  go_simp
  try with_reducible rfl
 simp only [Act.put, List.getElem_toArray, List.getElem_cons_succ, List.getElem_cons_zero, List.setIfInBounds_toArray, List.set_cons_succ, List.set_cons_zero]
 refine wpAnyH_take (i := 3) (v := .slice xo xn xc) rfl (by kernel_rfl) (by kernel_rfl) (by kernel_rfl) (fun _ _ _ h => h) (Or.inl ⟨by rfl, ?y4⟩) hS0 ?r4
 case y4 =>
  intro w_ hS_
  obtain ⟨_, h_⟩ := hS_.2.2
  have c_ := cell_of_row _ _ 0 _ _ _ h_
  go_simp
  try with_reducible rfl
 simp only [Act.put, List.getElem_toArray, List.getElem_cons_succ, List.getElem_cons_zero, List.setIfInBounds_toArray, List.set_cons_succ, List.set_cons_zero]
 refine wpAnyH_take (i := 4) (v := .agg #[.int .u64 (n : Int), .slice da dl dc, .slice pa pl pc]) rfl (by kernel_rfl) (by kernel_rfl) (by kernel_rfl) (fun _ _ _ h => h) (yieldsIf_load_mid (by rfl) 78 _ rfl bv 0 rfl [.int .u64 (n : Int), .slice da dl dc, .slice pa pl pc] _ (fun _ h => range_row h.2.1) Tryz.underlying78 rfl infoV) hS0 ?_
 simp only [Act.put, List.getElem_toArray, List.getElem_cons_succ, List.getElem_cons_zero, List.setIfInBounds_toArray, List.set_cons_succ, List.set_cons_zero]
 refine wpAnyH_one (k := 5) (fuel := 0) (by kernel_rfl) rfl (by kernel_rfl) (fun K_ hK => ?_)
 refine wp_call_up (base := w.heap.size) (F := F) (R := fun v => v = .tuple #[]) (B := fun w' => Below w.heap.size w w') ?hx cC2 ?_ ?_
 case hx => kernel_rfl
 ·intro hF v_ w4 hv4 hb4
  subst hv4
  subst hF
  refine hK _ _ ⟨hc.keep hb4, hv.keep hb4, hg.keep hb4⟩ ?_
  simp only [Act.put, List.getElem_toArray, List.getElem_cons_succ, List.getElem_cons_zero, List.setIfInBounds_toArray, List.set_cons_succ, List.set_cons_zero]
  clear hK
  refine wpAnyH_done (by kernel_rfl) ?_ _
  go_wp2_with (fail)
  go_end0
  exact ⟨⟨_, rfl, rfl⟩, hb4⟩
 ·intro x hF g4 w4 h1 h2 hb4
  subst hF
  go_wp2_with (fail)
  exact ⟨rfl, ⟨g4, rfl, h1, h2⟩, hb4⟩
theorem bVal (cs : Array Value) (W : World) : (Instr.box 78 (.agg cs)).run Tryz.prog W = .ok (.pointer (some ⟨W.heap.size, 0, none⟩)) (W.alloc (.cells cs 78)) := by kernel_rfl
set_option maxRecDepth 100000 in
set_option maxHeartbeats 4000000 in
theorem a_CheckF {g : Nat} {ts : List Slt} (hfl : ∀ i, i < ts.length → Fla (gs ts i)) (n : Nat) (hn : n < 18446744073709551616) (da : Option Addr) (dl dc : Nat) (pv : Value) (xs : List VR) (w : World) (hC : Cdc w g ts) (hP : Prt w pv xs) :
 Calls Tryz.prog 73 #[.pointer (some ⟨g, 0, none⟩), .agg (vrw n (.slice da dl dc) pv)] w fun e w' => Cgt w.heap.size (ckF ts n dl xs 1) e w' ∧ Below w.heap.size w w' := by
 obtain ⟨x, hR, hg⟩ := hC
 obtain ⟨xo, xc, rfl⟩ := hR.form
 obtain ⟨pa, pc, hpv⟩ : ∃ pa pc, pv = .slice pa xs.length pc := by obtain ⟨a, c, e, _⟩ := hP; exact ⟨a, c, e⟩
 subst hpv
 have hcf := fun V hV => a_checkF hR hfl n hn da dl dc (.slice pa xs.length pc) xs 1 V hV (hP.keep hV)
 unfold vrw at hcf ⊢
 generalize ckF ts n dl xs 1 = F at *
 have hb : Below w.heap.size w ((w.alloc (.cells #[.pointer (some ⟨g, 0, none⟩)] 80)).alloc (.cells #[.int .u64 (n : Int), .slice da dl dc, .slice pa xs.length pc] 78)) := ((Below.refl _ _).alloc (Nat.le_refl _) _).alloc (by simp) _
 have r0 := hp2_0 w (.cells #[.pointer (some ⟨g, 0, none⟩)] 80) (.cells #[.int .u64 (n : Int), .slice da dl dc, .slice pa xs.length pc] 78)
 have r1 := hp2_1 w (.cells #[.pointer (some ⟨g, 0, none⟩)] 80) (.cells #[.int .u64 (n : Int), .slice da dl dc, .slice pa xs.length pc] 78)
 have rg := keep hb hg
 have cK := a_caughtC F (.pointer (some ⟨w.heap.size, 0, none⟩)) (.pointer (some ⟨w.heap.size + 1, 0, none⟩)) ((w.alloc (.cells #[.pointer (some ⟨g, 0, none⟩)] 80)).alloc (.cells #[.int .u64 (n : Int), .slice da dl dc, .slice pa xs.length pc] 78)) (fun V hV => a_check1 F w.heap.size (w.heap.size + 1) g xo ts.length xc _ _ n da dl dc pa xs.length pc V ⟨_, keep hV r0⟩ ⟨_, keep hV r1⟩ ⟨_, keep hV rg⟩ (fun V' hV' => hcf V' (Below.after (Below.after hb hV) hV')))
 have h0 := hmf
 have A1 := hide hb
 clear hcf hb r0 r1 rg hg hR hP
 go_enter Tryz.func73, Tryz.ntmps73
 go_wp2_with (fail)
 refine cK.mono ?_
 rintro e_ w1 ⟨hG, hb1⟩
 replace hb1 := Below.after A1.out hb1
 have hsz := A1.out.size
 cases F with
 | none =>
  obtain rfl : e_ = .returned .nilIface := hG
  go_wp2_with (fail)
  go_ret
  exact ⟨rfl, hb1⟩
 | some f =>
  obtain ⟨q, rfl, h1, h2⟩ := hG
  go_wp2_with (fail)
  go_ret
  exact ⟨⟨q, rfl, Nat.le_trans hsz h1, h2⟩, hb1⟩
end Go.Proofs.YtjoohgkgkabbpaaGreatDoor

