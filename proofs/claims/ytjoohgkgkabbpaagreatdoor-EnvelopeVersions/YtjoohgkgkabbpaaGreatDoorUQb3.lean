import Derived.Test.YtjoohgkgkabbpaaGreatDoorUQb0
import Derived.Test.YtjoohgkgkabbpaaGreatDoorUWr
namespace Go.Proofs.YtjoohgkgkabbpaaGreatDoor
set_option maxRecDepth 100000
open Go Go.RowKit Go.Sort
attribute [local go_sem] setCell_drewN alloc_drewN
theorem infoFi : (Tryz.prog.info? 72).map (·.size) = some 4 := by kernel_rfl
set_option maxRecDepth 100000 in
set_option maxHeartbeats 4000000 in
theorem a_plain2 (n : Nat) (da : Option Addr) (dl dc : Nat) (pa : Option Addr) (pl pc : Nat) (no wt : Int) (g0 g1 : Nat) (w : World) (h0 : Bx w g0 #[.int .i64 no]) (h1 : Bx w g1 #[.int .i64 wt]) :
 Calls Tryz.prog 158 #[.agg (vrw n (.slice da dl dc) (.slice pa pl pc)), ptr g0, ptr g1] w fun e w' => e = .returned (.agg #[.int .i64 no, .int .i64 wt, .int .u64 (n : Int), .slice da dl dc]) ∧ Below w.heap.size w w' := by
 obtain ⟨T0, h0⟩ := h0
 obtain ⟨T1, h1⟩ := h1
 have l0 := lt_of_row h0
 have l1 := lt_of_row h1
 have n0 : ¬ w.heap.size = g0 := by omega
 have n0' : ¬ g0 = w.heap.size := by omega
 have n1 : ¬ w.heap.size = g1 := by omega
 have n1' : ¬ g1 = w.heap.size := by omega
 have m0 : ¬ w.heap.size + 1 = g0 := by omega
 have m0' : ¬ g0 = w.heap.size + 1 := by omega
 have m1 : ¬ w.heap.size + 1 = g1 := by omega
 have m1' : ¬ g1 = w.heap.size + 1 := by omega
 have c0 : w.cell? ⟨g0, 0, none⟩ = some (.int .i64 no) := by rw [cell_of_row _ _ _ _ _ _ h0]; rfl
 have c1 : w.cell? ⟨g1, 0, none⟩ = some (.int .i64 wt) := by rw [cell_of_row _ _ _ _ _ _ h1]; rfl
 have hb : Below w.heap.size w ((w.alloc (.cells #[.int .u64 (n : Int), .slice da dl dc, .slice pa pl pc] 78)).alloc (.cells #[.int .i64 0, .int .i64 0, .int .u64 0, .slice none 0 0] 72)) := ((Below.refl _ _).alloc (Nat.le_refl _) _).alloc (by simp) _
 have r1 := hp2_1 w (.cells #[.int .u64 (n : Int), .slice da dl dc, .slice pa pl pc] 78) (.cells #[.int .i64 0, .int .i64 0, .int .u64 0, .slice none 0 0] 72)
 have hb2 := below_setRow (g := w.heap.size + 1) hb (by omega) #[.int .i64 no, .int .i64 wt, .int .u64 (n : Int), .slice da dl dc]
 have r2 := setRow_heap _ (w.heap.size + 1) _ (#[.int .i64 no, .int .i64 wt, .int .u64 (n : Int), .slice da dl dc]) _ _ r1
 have hone : (#[Value.int .i64 no, .int .i64 wt, .int .u64 (n : Int), .slice da dl dc] : Array Value).all (·.oneCell') = true := by simp [Value.oneCell']
 unfold vrw ptr
 have A1 := hide hb2
 have A2 := hide r2
 clear hb hb2 r2 h0 h1
 go_enter Tryz.func158, Tryz.ntmps158
 go_wp2_with (first | (refine wpList_store_row rfl 72 _ _ rfl (w.heap.size + 1) #[.int .i64 no, .int .i64 wt, .int .u64 (n : Int), .slice da dl dc] rfl rfl 72 _ r1 infoFi rfl hone ?_) | fail)
 exact bodyPost_ret (v := .agg #[.int .i64 no, .int .i64 wt, .int .u64 (n : Int), .slice da dl dc]) (results_cell_row Tryz.results158 _ _ (w.heap.size + 1) _ _ _ _ rfl A2.out Tryz.underlying72 rfl infoFi) rfl ⟨rfl, A1.out⟩
def wtK (t : Slt) : Int := if t.kind = 2 then 5 else if t.kind = 3 then 1 else if t.kind = 5 then 2 else 0
theorem ent_plain2 (args : Array Value) (W : World) : (callFunc 158 args).run Tryz.prog W = .ok (.enter 158 args) W := by kernel_rfl
theorem a_slotWrite {W : World} {S : Nat → Prop} {t : Slt} {u : Value} {row : Array Value} (h : SlC W S t u row) (hf : Fla t) : ∃ wt k1 k2 k3 a1 a2 a3, row = rdv t.no wt k1 k2 k3 a1 a2 a3 ∧ (∀ args W, (callFunc k2 args).run Tryz.prog W = .ok (.enter k2 args) W) ∧
 ∀ (x : VR) (w : World), Below W.heap.size W w → Calls Tryz.prog k2 (#[.agg (vrv x)] ++ a2) w fun e w' => e = .returned (.agg #[.int .i64 t.no, .int .i64 (wtK t), .int .u64 (x.num : Int), .slice x.da x.dl x.dc]) ∧ Below w.heap.size w w' := by
 have gen : ∀ (wt : Int) (k : FuncId) (cs : Array Value), PlC W S t.no wt k cs row → wtK t = wt → ∃ wt k1 k2 k3 a1 a2 a3, row = rdv t.no wt k1 k2 k3 a1 a2 a3 ∧ (∀ args W, (callFunc k2 args).run Tryz.prog W = .ok (.enter k2 args) W) ∧
  ∀ (x : VR) (w : World), Below W.heap.size W w → Calls Tryz.prog k2 (#[.agg (vrv x)] ++ a2) w fun e w' => e = .returned (.agg #[.int .i64 t.no, .int .i64 (wtK t), .int .u64 (x.num : Int), .slice x.da x.dl x.dc]) ∧ Below w.heap.size w w' := by
  intro wt k cs ⟨g0, g1, g2, g4, gs, e, h0, h1, h2, h4, h5⟩ hwt
  refine ⟨wt, _, _, _, _, _, _, e, ent_plain2, fun x w hb => ?_⟩
  rw [hwt]
  exact a_plain2 x.num x.da x.dl x.dc x.pa x.pl x.pc t.no wt g0 g1 w (h0.2.keep hb) (h1.2.keep hb)
 rcases h with ⟨hk, h⟩ | ⟨hk, h⟩ | ⟨hk, h⟩ | ⟨hk, h⟩ | ⟨hk, h⟩ | ⟨hk, h⟩ | ⟨hk, h⟩ | ⟨hk, h⟩
 ·exact gen 0 _ _ h (by unfold wtK; rw [if_neg (by omega), if_neg (by omega), if_neg (by omega)])
 ·exact gen 5 _ _ h (by unfold wtK; rw [if_pos hk])
 ·exact gen 1 _ _ h (by unfold wtK; rw [if_neg (by omega), if_pos hk])
 ·exact gen 0 _ _ h (by unfold wtK; rw [if_neg (by omega), if_neg (by omega), if_neg (by omega)])
 ·have hk5 : t.kind = 5 := by rcases hk with q | q; exact q; rcases hf with q2 | q2 | q2 | q2 | q2 <;> omega
  exact gen 2 _ _ h (by unfold wtK; rw [if_neg (by omega), if_neg (by omega), if_pos hk5])
 ·exfalso; rcases hf with q2 | q2 | q2 | q2 | q2 <;> omega
 ·exfalso; rcases hf with q2 | q2 | q2 | q2 | q2 <;> omega
 ·exfalso; rcases hf with q2 | q2 | q2 | q2 | q2 <;> omega
def fdF (t : Slt) (x : VR) (d : List B) : Fd := ⟨t.no, wtK t, x.num, d⟩
def gd1 (ds : List (List B)) (i : Nat) : List B := ds.getD i []
def fdk (ts : List Slt) (xs : List VR) (ds : List (List B)) : Nat → List Fd
 | 0 => []
 | k + 1 => fdk ts xs ds k ++ [fdF (gs ts k) (gx xs k) (gd1 ds k)]
def frk (ts : List Slt) (xs : List VR) : Nat → List Value
 | 0 => []
 | k + 1 => frk ts xs k ++ [.int .i64 (gs ts k).no, .int .i64 (wtK (gs ts k)), .int .u64 ((gx xs k).num : Int), .slice (gx xs k).da (gx xs k).dl (gx xs k).dc]
theorem fdk_len (ts : List Slt) (xs : List VR) (ds : List (List B)) : ∀ k, (fdk ts xs ds k).length = k
 | 0 => rfl
 | k + 1 => by rw [fdk, List.length_append, fdk_len ts xs ds k]; rfl
theorem frk_len (ts : List Slt) (xs : List VR) : ∀ k, (frk ts xs k).length = k * 4
 | 0 => rfl
 | k + 1 => by rw [frk, List.length_append, frk_len ts xs k]; simp; omega
theorem fdk_at (ts : List Slt) (xs : List VR) (ds : List (List B)) : ∀ k i, i < k → gf (fdk ts xs ds k) i = fdF (gs ts i) (gx xs i) (gd1 ds i)
 | 0, _, h => by omega
 | k + 1, i, h => by
  have hl := fdk_len ts xs ds k
  rcases Nat.lt_or_ge i k with q | q
  ·rw [← fdk_at ts xs ds k i q, fdk]
   simp only [gf, List.getD_eq_getElem?_getD]
   rw [List.getElem?_append_left (by omega)]
  ·obtain rfl : i = k := by omega
   rw [fdk]
   simp only [gf, List.getD_eq_getElem?_getD]
   rw [List.getElem?_append_right (by omega), hl, Nat.sub_self]
   rfl
theorem frk_at (ts : List Slt) (xs : List VR) : ∀ k i j, i < k → j < 4 → (frk ts xs k)[i * 4 + j]? = [Value.int .i64 (gs ts i).no, .int .i64 (wtK (gs ts i)), .int .u64 ((gx xs i).num : Int), .slice (gx xs i).da (gx xs i).dl (gx xs i).dc][j]?
 | 0, _, _, h, _ => by omega
 | k + 1, i, j, h, hj => by
  have hl := frk_len ts xs k
  rw [frk]
  rcases Nat.lt_or_ge i k with q | q
  ·rw [List.getElem?_append_left (by omega)]
   exact frk_at ts xs k i j q hj
  ·obtain rfl : i = k := by omega
   rw [List.getElem?_append_right (by omega), hl]
   congr 1
   omega
theorem fds_of {W : World} {base : Nat} {v : Value} {ts : List Slt} {xs : List VR} {ds : List (List B)} {k : Nat} (hk : k ≤ 100) (hO : W.ownsRow base 72 4 v k (frk ts xs k))
 (hB : ∀ i, i < k → BysB W (.slice (gx xs i).da (gx xs i).dl (gx xs i).dc) (gd1 ds i) ∧ Fok (fdF (gs ts i) (gx xs i) (gd1 ds i))) : Fds W v (fdk ts xs ds k) := by
 have hcl := fun g hg => hO.cells (g := g) hg
 have hl := fdk_len ts xs ds k
 obtain ⟨q1, ⟨hv, h0⟩ | ⟨g, cap, cur, hv, hb, hg, hn, hm, hs, ht⟩⟩ := hO
 ·subst hv
  subst h0
  exact ⟨none, 0, rfl, by simp [fdk], by simp [fdk], fun _ => rfl, fun i hi => by simp [fdk] at hi⟩
 ·subst hv
  refine ⟨some ⟨g, 0, none⟩, cap, by rw [hl], by omega, by omega, fun e => (by cases e), fun i hi => ?_⟩
  rw [hl] at hi
  rw [fdk_at ts xs ds k i hi]
  refine ⟨g, 0, _, rfl, lt_of_row hg, ?_, (hB i hi).1, (hB i hi).2⟩
  intro j x hx
  have hj : j < 4 := by
   have := (List.getElem?_eq_some_iff.1 hx).1
   simpa [frow] using this
  have := hcl g rfl (i * 4 + j) x (by rw [frk_at ts xs k i j hi hj]; exact hx)
  rw [add_off] at this
  rw [← this, Nat.zero_add]
end Go.Proofs.YtjoohgkgkabbpaaGreatDoor
namespace Go.Proofs.YtjoohgkgkabbpaaGreatDoor
set_option maxRecDepth 100000
open Go Go.RowKit Go.Sort
attribute [local go_sem] setCell_drewN alloc_drewN
theorem wp_val_op {P : Program} {o : Oper} {a : Act} {w w' : World} {K : Act → World → Prop} {Q : Exit → Act → World → Prop} (v : Value) (hx : (execOp a.eval o).run P w = .ok (.value v) w') (h : K (a.put o.dst v) w') : o.wp P a w K Q := by
 unfold Oper.wp
 rw [hx, Oper.upon_value]
 exact h
set_option maxRecDepth 100000 in
set_option maxHeartbeats 8000000 in
theorem a_encodeF {W : World} {S : Nat → Prop} {v : Value} {ts : List Slt} (h : RdL W S v ts) (hfl : ∀ i, i < ts.length → Fla (gs ts i)) (n : Nat) (da : Option Addr) (dl dc : Nat) (pv : Value) (xs : List VR) (ds : List (List B)) (w : World) (hw : Below W.heap.size W w) (hP : Prt w pv xs) (hlx : xs.length = ts.length)
 (hB : ∀ i, i < ts.length → BysB w (.slice (gx xs i).da (gx xs i).dl (gx xs i).dc) (gd1 ds i) ∧ Fok (fdF (gs ts i) (gx xs i) (gd1 ds i))) :
 Calls Tryz.prog 74 #[v, .agg (vrw n (.slice da dl dc) pv)] w fun e w' => ∃ u, e = .returned u ∧ Own w' w.heap.size u (eout (fdk ts xs ds ts.length)) ∧ Below w.heap.size w w' := by
 cases h with
 | mk ao cap ts rows us hl hc hnn h hs =>
  clear hs
  obtain ⟨pa, pc, rfl, hpc, hpn, hpr⟩ := hP
  rw [hlx] at hpc hpr ⊢
  clear hpn
  have hb0 : Below w.heap.size w (w.alloc (.cells (vrw n (.slice da dl dc) (.slice pa ts.length pc)) 78)) := (Below.refl _ _).alloc (Nat.le_refl _) _
  have rV := hp1_0 w (.cells (vrw n (.slice da dl dc) (.slice pa ts.length pc)) 78)
  have cE := hide (fun (V : World) (u : Value) (h : Fds V u (fdk ts xs ds ts.length)) => a_encode (fdk ts xs ds ts.length) V u h)
  have hBh := hide hB
  unfold vrw at rV hb0 ⊢
  go_enter Tryz.func74, Tryz.ntmps74
  go_wp2_with (fail)
  generalize w.alloc (.cells #[.int .u64 (n : Int), .slice da dl dc, .slice pa ts.length pc] 78) = w0 at *
  go_loopw [12, 6, 7, 5] (fun i _ _ out wr => ∃ k : Nat, k ≤ ts.length ∧ i = .int .i64 k ∧ wr.ownsRow w.heap.size 72 4 out k (frk ts xs k) ∧ Below w.heap.size w wr ∧ wr.heap[w.heap.size]? = some (.cells #[.int .u64 (n : Int), .slice da dl dc, .slice pa ts.length pc] 78 (0, 0)) ∧ out.ownBlock ≠ some w.heap.size) (fun i _ _ _ _ => ts.length - (intOf i).toNat)
  case atStart => exact ⟨0, by omega, rfl, ⟨rfl, .inl ⟨rfl, rfl⟩⟩, hb0, rV, by simp [Value.ownBlock]⟩
  case round =>
   clear rV hb0
   obtain ⟨k, hk, rfl, hO, hb, rV, hne⟩ := hrel
   have hww := Below.after hw hb
   obtain ⟨mo, mc, rfl⟩ := own_slice hO
   by_cases hlt : k < ts.length
   ·have hd : decide ((k : Int) < (ts.length : Int)) = true := by simp; omega
    obtain ⟨b, rfl, hbl, _, hra, hSl⟩ := h k hlt
    obtain ⟨pb, poff, rfl, hpb, hpra⟩ := hpr k (by omega)
    obtain ⟨wt, k1, k2, k3, a1, a2, a3, hrow, hent, hcall⟩ := a_slotWrite hSl (hfl k hlt)
    rw [hrow] at hra
    have hrw := rangeS_keep2 hra hww hbl
    have hpw := rangeS_keep2 hpra hb hpb
    have cC := fun V hV => hcall (gx xs k) V hV
    have hlb := lt_of_row rV
    have hba : Below wr.heap.size wr (wr.alloc (.cells #[.int .i64 0, .int .i64 0, .nilFunc, .nilFunc, .nilFunc] 166)) := (Below.refl _ _).alloc (Nat.le_refl _) _
    have rS := hp1_0 wr (.cells #[.int .i64 0, .int .i64 0, .nilFunc, .nilFunc, .nilFunc] 166)
    have hbb := below_setRow (g := wr.heap.size) hba (Nat.le_refl _) (rdv (gs ts k).no wt k1 k2 k3 a1 a2 a3)
    have rS2 := setRow_heap _ wr.heap.size _ (rdv (gs ts k).no wt k1 k2 k3 a1 a2 a3) _ _ rS
    have hO2 := own_but (w' := (wr.alloc (.cells #[.int .i64 0, .int .i64 0, .nilFunc, .nilFunc, .nilFunc] 166)).setRow wr.heap.size (rdv (gs ts k).no wt k1 k2 k3 a1 a2 a3)) hO fun q hq => hbb.block q (own_lt hO q hq).2
    replace rV := keep hbb rV
    replace hpw := rangeS_keep2 hpw hbb (Nat.lt_of_lt_of_le hpb hb.size)
    have hpb2 := Nat.lt_of_lt_of_le hpb hb.size
    replace hb := Below.after hb hbb
    replace hww := Below.after hww hbb
    have efr : frk ts xs (k + 1) = frk ts xs k ++ [.int .i64 (gs ts k).no, .int .i64 (wtK (gs ts k)), .int .u64 ((gx xs k).num : Int), .slice (gx xs k).da (gx xs k).dl (gx xs k).dc] := rfl
    generalize (gs ts k).no = no at *
    generalize wtK (gs ts k) = wk at *
    generalize gx xs k = x at *
    obtain ⟨xn, xda, xdl, xdc, xpa, xpl, xpc⟩ := x
    have A0 := hide efr
    have A1 := hide rV
    have A2 := hide hpw
    have A3 := hide hb
    have A4 := hide hww
    have A5 := hide rS2
    have A6 := hide cC
    have A7 := hide hO2
    have A8 := hide (own_lt hO)
    have A9 := hide hne
    have hone : (rdv no wt k1 k2 k3 a1 a2 a3).all (·.oneCell') = true := by simp [rdv, Value.oneCell']
    clear efr rV hpw hb hww rS2 cC hcall hSl hrow hra hpra h hpr hfl hba hbb hO hO2 hB
    unfold rdv vrv vrw at *
    go_wp2_with (first | (refine wpList_load_mid rfl 166 _ rfl b (k * 5) rfl _ _ hrw Tryz.underlying166 rfl infoSt' ?_) | (refine wpList_store_row rfl 166 _ _ rfl wr.heap.size #[.int .i64 no, .int .i64 wt, .func (.func k1) #[] a1, .func (.func k2) #[] a2, .func (.func k3) #[] a3] rfl rfl 166 _ rS infoSt' rfl hone ?_) | fail)
    have hS0 : (fun W : World => W.heap[wr.heap.size]? = some (.cells #[.int .i64 no, .int .i64 wt, .func (.func k1) #[] a1, .func (.func k2) #[] a2, .func (.func k3) #[] a3] 166 (0, 0)) ∧ W.heap[w.heap.size]? = some (.cells #[.int .u64 (n : Int), .slice da dl dc, .slice (some ⟨pb, poff, none⟩) ts.length pc] 78 (0, 0)) ∧ W.rangeAt pb (poff + k * 3) [.int .u64 (xn : Int), .slice xda xdl xdc, .slice xpa xpl xpc]) _ := ⟨A5.out, A1.out, A2.out⟩
    refine wp_region_held (S := fun W : World => W.heap[wr.heap.size]? = some (.cells #[.int .i64 no, .int .i64 wt, .func (.func k1) #[] a1, .func (.func k2) #[] a2, .func (.func k3) #[] a3] 166 (0, 0)) ∧ W.heap[w.heap.size]? = some (.cells #[.int .u64 (n : Int), .slice da dl dc, .slice (some ⟨pb, poff, none⟩) ts.length pc] 78 (0, 0)) ∧ W.rangeAt pb (poff + k * 3) [.int .u64 (xn : Int), .slice xda xdl xdc, .slice xpa xpl xpc]) (by kernel_rfl) ?_
    change wpAnyH _ _ _ _ _ _ _ _ (World.drew _)
    generalize (wr.alloc (.cells #[.int .i64 0, .int .i64 0, .nilFunc, .nilFunc, .nilFunc] 166)).setRow wr.heap.size #[.int .i64 no, .int .i64 wt, .func (.func k1) #[] a1, .func (.func k2) #[] a2, .func (.func k3) #[] a3] = w2 at *
    have hbd : Below w2.heap.size w2 w2.drew := below_drN (Below.refl _ _) 1
    replace hS0 : (fun W : World => W.heap[wr.heap.size]? = some (.cells #[.int .i64 no, .int .i64 wt, .func (.func k1) #[] a1, .func (.func k2) #[] a2, .func (.func k3) #[] a3] 166 (0, 0)) ∧ W.heap[w.heap.size]? = some (.cells #[.int .u64 (n : Int), .slice da dl dc, .slice (some ⟨pb, poff, none⟩) ts.length pc] 78 (0, 0)) ∧ W.rangeAt pb (poff + k * 3) [.int .u64 (xn : Int), .slice xda xdl xdc, .slice xpa xpl xpc]) w2.drew := hS0
    have hb := Below.after A3.out hbd
    have hww := Below.after A4.out hbd
    have hO := own_but (w' := w2.drew) A7.out fun q hq => hbd.block q (own_lt A7.out q hq).2
    clear A1 A2 A3 A4 A5 A7 hbd
    generalize w2.drew = w3 at *
    refine wpAnyH_take (i := 0) (v := ?v1) rfl (by kernel_rfl) (by kernel_rfl) (by kernel_rfl) (fun _ _ _ h => h) (Or.inl ⟨by rfl, ?y1⟩) hS0 ?r1
    case y1 =>
     intro w_ hS_
     go_simp
     try with_reducible rfl
    simp only [Act.put, List.getElem_toArray, List.getElem_cons_zero, List.setIfInBounds_toArray, List.set_cons_succ, List.set_cons_zero]
    refine wpAnyH_take (i := 1) (v := ?v2) rfl (by kernel_rfl) (by kernel_rfl) (by kernel_rfl) (fun _ _ _ h => h) (Or.inl ⟨by rfl, ?y2⟩) hS0 ?r2
    case y2 =>
     intro w_ hS_
     go_simp
     try with_reducible rfl
    simp only [Act.put, List.getElem_toArray, List.getElem_cons_succ, List.getElem_cons_zero, List.setIfInBounds_toArray, List.set_cons_succ, List.set_cons_zero]
    refine wpAnyH_take (i := 2) (v := .func (.func k2) #[] a2) rfl (by kernel_rfl) (by kernel_rfl) (by kernel_rfl) (fun _ _ _ h => h) (Or.inl ⟨by rfl, ?y3⟩) hS0 ?r3
    case y3 =>
     intro w_ hS_
     have c_ := cell_of_row _ _ 3 _ _ _ hS_.1
     go_simp
     try with_reducible rfl
    simp only [Act.put, List.getElem_toArray, List.getElem_cons_succ, List.getElem_cons_zero, List.setIfInBounds_toArray, List.set_cons_succ, List.set_cons_zero]
    refine wpAnyH_take (i := 3) (v := ?v4) rfl (by kernel_rfl) (by kernel_rfl) (by kernel_rfl) (fun _ _ _ h => h) (Or.inl ⟨by rfl, ?y4⟩) hS0 ?r4
    case y4 =>
     intro w_ hS_
     go_simp
     try with_reducible rfl
    simp only [Act.put, List.getElem_toArray, List.getElem_cons_succ, List.getElem_cons_zero, List.setIfInBounds_toArray, List.set_cons_succ, List.set_cons_zero]
    refine wpAnyH_take (i := 4) (v := .slice (some ⟨pb, poff, none⟩) ts.length pc) rfl (by kernel_rfl) (by kernel_rfl) (by kernel_rfl) (fun _ _ _ h => h) (Or.inl ⟨by rfl, ?y5⟩) hS0 ?r5
    case y5 =>
     intro w_ hS_
     have c_ := cell_of_row _ _ 2 _ _ _ hS_.2.1
     go_simp
     try with_reducible rfl
    simp only [Act.put, List.getElem_toArray, List.getElem_cons_succ, List.getElem_cons_zero, List.setIfInBounds_toArray, List.set_cons_succ, List.set_cons_zero]
    refine wpAnyH_take (i := 5) (v := ?v6) rfl (by kernel_rfl) (by kernel_rfl) (by kernel_rfl) (fun _ _ _ h => h) (Or.inl ⟨by rfl, ?y6⟩) hS0 ?r6
    case y6 =>
     intro w_ hS_
     go_simp
     try with_reducible rfl
    simp only [Act.put, List.getElem_toArray, List.getElem_cons_succ, List.getElem_cons_zero, List.setIfInBounds_toArray, List.set_cons_succ, List.set_cons_zero]
    refine wpAnyH_take (i := 6) (v := ?v7) rfl (by kernel_rfl) (by kernel_rfl) (by kernel_rfl) (fun _ _ _ h => h) (Or.inl ⟨by rfl, ?y7⟩) hS0 ?r7
    case y7 =>
     intro w_ hS_
     go_simp
     try with_reducible rfl
    simp only [Act.put, List.getElem_toArray, List.getElem_cons_succ, List.getElem_cons_zero, List.setIfInBounds_toArray, List.set_cons_succ, List.set_cons_zero]
    refine wpAnyH_take (i := 7) (v := .agg #[.int .u64 (xn : Int), .slice xda xdl xdc, .slice xpa xpl xpc]) rfl (by kernel_rfl) (by kernel_rfl) (by kernel_rfl) (fun _ _ _ h => h) (yieldsIf_load_mid (by rfl) 78 _ rfl pb (poff + k * 3) rfl [.int .u64 (xn : Int), .slice xda xdl xdc, .slice xpa xpl xpc] _ (fun _ h => h.2.2) Tryz.underlying78 rfl infoV) hS0 ?_
    simp only [Act.put, List.getElem_toArray, List.getElem_cons_succ, List.getElem_cons_zero, List.setIfInBounds_toArray, List.set_cons_succ, List.set_cons_zero]
    refine wpAnyH_one (k := 8) (fuel := 3) (by kernel_rfl) rfl (by kernel_rfl) (fun K_ hK => ?_)
    have c := (A6.out w3 hww).mono (fun e w' h => (⟨_, h.1, rfl, h.2⟩ : ∃ v, e = .returned v ∧ v = .agg #[.int .i64 no, .int .i64 wk, .int .u64 (xn : Int), .slice xda xdl xdc] ∧ Below w3.heap.size w3 w'))
    clear A6
    refine wp_call_ex (R := fun v w' => v = .agg #[.int .i64 no, .int .i64 wk, .int .u64 (xn : Int), .slice xda xdl xdc] ∧ Below w3.heap.size w3 w') ?hx c (fun v_ w4 hX_ => ?_)
    case hx => exact run_call_val (.tmp 19) #[.tmp 24] #[78] rfl rfl _ (by simp only [List.map_toArray, List.map_cons, List.map_nil]; rfl) hent
    obtain ⟨rfl, hb4⟩ := hX_
    have hl1 := lt_of_row hS0.1
    have hl2 := lt_of_row hS0.2.1
    have hp4 := rangeS_keep2 hS0.2.2 hb4 (Nat.lt_of_lt_of_le hpb2 (by omega))
    refine hK _ _ ⟨keep hb4 hS0.1, keep hb4 hS0.2.1, hp4⟩ ?_
    simp only [Act.put, List.getElem_toArray, List.getElem_cons_succ, List.getElem_cons_zero, List.setIfInBounds_toArray, List.set_cons_succ, List.set_cons_zero]
    clear hK c
    replace hb := Below.after hb hb4
    replace hO := own_but (w' := w4) hO fun q hq => hb4.block q (own_lt hO q hq).2
    have hS4 : _ ∧ _ ∧ _ := ⟨keep hb4 hS0.1, keep hb4 hS0.2.1, hp4⟩
    have hsz4 := hb4.size
    clear hS0 hp4 hww hb4
    have hba : Below w4.heap.size w4 (w4.alloc (.cells #[.int .i64 no, .int .i64 wk, .int .u64 (xn : Int), .slice xda xdl xdc] 72)) := (Below.refl _ _).alloc (Nat.le_refl _) _
    have r5 := hp1_0 w4 (.cells #[.int .i64 no, .int .i64 wk, .int .u64 (xn : Int), .slice xda xdl xdc] 72)
    have hz5 := size_alloc1 w4 (.cells #[.int .i64 no, .int .i64 wk, .int .u64 (xn : Int), .slice xda xdl xdc] 72)
    refine wpAnyH_one (k := 9) (fuel := 2) (by kernel_rfl) rfl (by kernel_rfl) (fun K_ hK => ?_)
    refine wp_val_op (.slice (some ⟨w4.heap.size, 0, none⟩) 1 1) (w' := w4.alloc (.cells #[.int .i64 no, .int .i64 wk, .int .u64 (xn : Int), .slice xda xdl xdc] 72)) (by kernel_rfl) ?_
    have hS5 : _ ∧ _ ∧ _ := ⟨keep hba hS4.1, keep hba hS4.2.1, rangeS_keep2 hS4.2.2 hba (Nat.lt_of_lt_of_le hpb2 (by omega))⟩
    refine hK _ _ hS5 ?_
    simp only [Act.put, List.getElem_toArray, List.getElem_cons_succ, List.getElem_cons_zero, List.setIfInBounds_toArray, List.set_cons_succ, List.set_cons_zero]
    clear hK
    replace hO := own_but (w' := w4.alloc (.cells #[.int .i64 no, .int .i64 wk, .int .u64 (xn : Int), .slice xda xdl xdc] 72)) hO fun q hq => hba.block q (own_lt hO q hq).2
    replace hb := Below.after hb hba
    clear hS4 hba
    generalize w4.alloc (.cells #[.int .i64 no, .int .i64 wk, .int .u64 (xn : Int), .slice xda xdl xdc] 72) = w5 at *
    obtain ⟨i0, hi, hz0, hz1, hz2⟩ := info48
    refine wpAnyH_one (k := 10) (fuel := 1) (by kernel_rfl) rfl (by kernel_rfl) (fun K_ hK => ?_)
    refine wp_append_nx (.tmp 17) (.tmp 26) 67 rfl w.heap.size 72 i0 (.agg #[.int .i64 0, .int .i64 0, .int .u64 0, .slice none 0 0]) 4 48 Tryz.underlying67 hi hz0 hz1 hz2 rfl (by decide) (.slice mo k mc) k (frk ts xs k) rfl hO ⟨w4.heap.size, 0, none⟩ 1 1 #[.int .i64 no, .int .i64 wk, .int .u64 (xn : Int), .slice xda xdl xdc].toList rfl rfl (fun j u hu => by rw [add_off, cell_of_row _ _ _ _ _ _ r5]; simpa using hu) (by simp [Value.oneCell']) (by unfold maxLen; omega) (by omega) hb.size (fun v' w6 h1 h2 h3 => ?_)
    have hk5 : ∀ q, q < w5.heap.size → (Value.slice mo k mc).ownBlock ≠ some q → w6.heap[q]? = w5.heap[q]? := fun q hq1 hq2 => h2.block q hq1 (fun e => hq2 e.symm)
    have hl1 := lt_of_row hS5.1
    have hl2 := lt_of_row hS5.2.1
    have e1 := hk5 _ hl1 (fun e => by have := (A8.out _ e).2; omega)
    have e2 := hk5 _ hl2 A9.out
    have e3 := hk5 pb (by omega) (fun e => by have := (A8.out _ e).1; omega)
    have hS6 : _ ∧ _ ∧ _ := ⟨e1.trans hS5.1, e2.trans hS5.2.1, range_same hS5.2.2 e3⟩
    refine hK _ _ hS6 ?_
    simp only [Act.put, List.getElem_toArray, List.getElem_cons_succ, List.getElem_cons_zero, List.setIfInBounds_toArray, List.set_cons_succ, List.set_cons_zero]
    clear hK
    have hB6 : Below w.heap.size w w6 := hb.grown h2 hb.size (fun q hq => (A8.out q hq).1)
    have hne6 : v'.ownBlock ≠ some w.heap.size := fun e => by
     rcases h3 with q | ⟨q, q1, q2⟩
     ·exact A9.out (q.symm.trans e)
     ·rw [q1] at e
      injection e with e
      omega
    have rV6 := hS6.2.1
    replace h1 : w6.ownsRow w.heap.size 72 4 v' (k + 1) (frk ts xs (k + 1)) := by rw [A0.out]; exact h1
    obtain ⟨vo, vc, rfl⟩ := own_slice h1
    have B1 := hide h1
    have B2 := hide hB6
    have B3 := hide hne6
    have B4 := hide rV6
    clear h1 h2 h3 hB6 hne6 rV6 hS5 hk5 e1 e2 e3 hO hb r5 hi hz0 hz1 hz2
    refine wpAnyH_one (k := 11) (fuel := 0) (by kernel_rfl) rfl (by kernel_rfl) (fun K_ hK => ?_)
    refine wp_pure_op (.slice vo (k + 1) vc) (by kernel_rfl) ?_
    refine hK _ _ hS6 ?_
    simp only [Act.put, List.getElem_toArray, List.getElem_cons_succ, List.getElem_cons_zero, List.setIfInBounds_toArray, List.set_cons_succ, List.set_cons_zero]
    clear hK hS6
    refine wpAnyH_done (by kernel_rfl) ?_ _
    go_wp2_with (fail)
    refine ⟨⟨k + 1, by omega, by go_num, B1.out, B2.out, B4.out, B3.out⟩, ?_⟩
    simp [intOf]; omega
   ·have hd : decide ((k : Int) < (ts.length : Int)) = false := by simp; omega
    obtain rfl : k = ts.length := by omega
    have hF := fds_of (by omega) hO (fun i hi => ⟨(hBh.out i hi).1.keep hb, (hBh.out i hi).2⟩)
    have cX := cE.out _ _ hF
    have A1 := hide hb
    clear h hpr hfl hB hO rV hb hF cE hBh
    go_wp2_with (fail)
    refine cX.mono ?_
    rintro e_ w1 ⟨u, rfl, hU, hb1⟩
    have hU2 := own_down hU A1.out.size
    have hb2 := Below.after A1.out hb1
    obtain ⟨ua, uc, rfl⟩ := slen_own hU2
    clear cX hU hb1
    go_wp2_with (fail)
    go_ret
    exact ⟨_, rfl, hU2, hb2⟩
end Go.Proofs.YtjoohgkgkabbpaaGreatDoor
namespace Go.Proofs.YtjoohgkgkabbpaaGreatDoor
set_option maxRecDepth 100000
open Go Go.RowKit Go.Sort
attribute [local go_sem] setCell_drewN alloc_drewN
theorem neq_nils (W : World) : (binOp .neq 30 .nilIface .nilIface).run Tryz.prog W = .ok (.bool false) W := by kernel_rfl
theorem neq_fault (v : Value) (W : World) : (binOp .neq 30 (.iface 87 v) .nilIface).run Tryz.prog W = .ok (.bool true) W := by kernel_rfl
def Enc (base : Nat) (f : Option Flt3) (bs : List B) (e : Ending) (w' : World) : Prop :=
 match f with
 | none => ∃ u, e = .returned (.tuple #[u, .nilIface]) ∧ Own w' base u bs
 | some x => ∃ g, e = .returned (.tuple #[.slice none 0 0, .iface 87 (.pointer (some ⟨g, 0, none⟩))]) ∧ base ≤ g ∧ w'.heap[g]? = some (.cells (frw x) 35 (0, 0))
set_option maxRecDepth 100000 in
set_option maxHeartbeats 4000000 in
theorem a_EncodeF {g : Nat} {ts : List Slt} (hfl : ∀ i, i < ts.length → Fla (gs ts i)) (n : Nat) (hn : n < 18446744073709551616) (da : Option Addr) (dl dc : Nat) (pv : Value) (xs : List VR) (ds : List (List B)) (w : World) (hC : Cdc w g ts) (hP : Prt w pv xs)
 (hB : xs.length = ts.length → ∀ i, i < ts.length → BysB w (.slice (gx xs i).da (gx xs i).dl (gx xs i).dc) (gd1 ds i) ∧ Fok (fdF (gs ts i) (gx xs i) (gd1 ds i))) :
 Calls Tryz.prog 42 #[.pointer (some ⟨g, 0, none⟩), .agg (vrw n (.slice da dl dc) pv)] w fun e w' => Enc w.heap.size (ckF ts n dl xs 1) (eout (fdk ts xs ds ts.length)) e w' ∧ Below w.heap.size w w' := by
 have cK := hide (fun V hV => a_CheckF hfl n hn da dl dc pv xs V (hC.keep hV) (hP.keep hV))
 have hCh := hide hC
 obtain ⟨x, hR, hg⟩ := hC
 obtain ⟨xo, xc, rfl⟩ := hR.form
 obtain ⟨pa, pc, hpv⟩ : ∃ pa pc, pv = .slice pa xs.length pc := by obtain ⟨a, c, e, _⟩ := hP; exact ⟨a, c, e⟩
 subst hpv
 have hln : ckF ts n dl xs 1 = none → xs.length = ts.length := fun h => by
  unfold ckF at h
  split at h
  ·cases h
  ·split at h
   ·cases h
   ·omega
 have cE := hide (fun V (hV : Below w.heap.size w V) (hx : xs.length = ts.length) => a_encodeF hR hfl n da dl dc (.slice pa xs.length pc) xs ds V hV (hP.keep hV) hx (fun i hi => ⟨((hB hx) i hi).1.keep hV, ((hB hx) i hi).2⟩))
 unfold vrw at cK cE ⊢
 generalize eout (fdk ts xs ds ts.length) = L at *
 generalize hFF : ckF ts n dl xs 1 = F at *
 generalize ((prS ts).1 : Int) = lo at *
 generalize ((prS ts).2 : Int) = hi at *
 have hb0 : Below w.heap.size w (w.alloc (.cells #[.int .u64 (n : Int), .slice da dl dc, .slice pa xs.length pc] 78)) := (Below.refl _ _).alloc (Nat.le_refl _) _
 have rV := hp1_0 w (.cells #[.int .u64 (n : Int), .slice da dl dc, .slice pa xs.length pc] 78)
 have cK1 := cK.out _ hb0
 have rg := keep hb0 hg
 have hbv := bVal #[.int .u64 (n : Int), .slice da dl dc, .slice pa xs.length pc]
 clear hFF hR hg hP hB cK hCh
 go_enter Tryz.func42, Tryz.ntmps42
 go_wp2_with (first | (refine wpList_load_want rfl 78 _ rfl w.heap.size rfl 78 #[.int .u64 (n : Int), .slice da dl dc, .slice pa xs.length pc] (0, 0) _ rV Tryz.underlying78 rfl infoV ?_) | fail)
 refine cK1.mono ?_
 rintro e_ w1 ⟨hG, hb1⟩
 replace rV := keep hb1 rV
 replace rg := keep hb1 rg
 have hs1 := hb1.size
 replace hb1 := Below.after hb0 hb1
 have hs0 := size_alloc1 w (.cells #[.int .u64 (n : Int), .slice da dl dc, .slice pa xs.length pc] 78)
 clear cK1 hb0 hbv
 cases F with
 | none =>
  obtain rfl : e_ = .returned .nilIface := hG
  have hx := hln rfl
  have hq := neq_nils
  clear hln
  go_wp2_with (fail)
  have hS0 : (fun W : World => Bx W w.heap.size #[.int .u64 (n : Int), .slice da dl dc, .slice pa xs.length pc] ∧ Bx W g #[.slice xo ts.length xc, .int .i64 lo, .int .i64 hi]) w1 := ⟨⟨_, rV⟩, ⟨_, rg⟩⟩
  refine wp_region_held (S := fun W : World => Bx W w.heap.size #[.int .u64 (n : Int), .slice da dl dc, .slice pa xs.length pc] ∧ Bx W g #[.slice xo ts.length xc, .int .i64 lo, .int .i64 hi]) (by kernel_rfl) ?_
  change wpAnyH _ _ _ _ _ _ _ _ (World.drew _)
  have hbd : Below w1.heap.size w1 w1.drew := below_drN (Below.refl _ _) 1
  replace hS0 : (fun W : World => Bx W w.heap.size #[.int .u64 (n : Int), .slice da dl dc, .slice pa xs.length pc] ∧ Bx W g #[.slice xo ts.length xc, .int .i64 lo, .int .i64 hi]) w1.drew := hS0
  replace hb1 := Below.after hb1 hbd
  have cC2 := cE.out w1.drew hb1
  clear cE hbd rV rg
  generalize w1.drew = w2 at *
  refine wpAnyH_take (i := 0) (v := ?v1) rfl (by kernel_rfl) (by kernel_rfl) (by kernel_rfl) (fun _ _ _ h => h) (Or.inl ⟨by rfl, ?y1⟩) hS0 ?r1
  case y1 =>
   intro w_ hS_
   go_simp
   try with_reducible rfl
  simp only [Act.put, List.getElem_toArray, List.getElem_cons_zero, List.setIfInBounds_toArray, List.set_cons_succ, List.set_cons_zero]
  refine wpAnyH_take (i := 1) (v := ?v2) rfl (by kernel_rfl) (by kernel_rfl) (by kernel_rfl) (fun _ _ _ h => h) (Or.inl ⟨by rfl, ?y2⟩) hS0 ?r2
  case y2 =>
   intro w_ hS_
   go_simp
   try with_reducible rfl
  simp only [Act.put, List.getElem_toArray, List.getElem_cons_succ, List.getElem_cons_zero, List.setIfInBounds_toArray, List.set_cons_succ, List.set_cons_zero]
  refine wpAnyH_take (i := 2) (v := ?v3) rfl (by kernel_rfl) (by kernel_rfl) (by kernel_rfl) (fun _ _ _ h => h) (Or.inl ⟨by rfl, ?y3⟩) hS0 ?r3
  case y3 =>
   intro w_ hS_
   go_simp
   try with_reducible rfl
  simp only [Act.put, List.getElem_toArray, List.getElem_cons_succ, List.getElem_cons_zero, List.setIfInBounds_toArray, List.set_cons_succ, List.set_cons_zero]
  refine wpAnyH_take (i := 3) (v := .slice xo ts.length xc) rfl (by kernel_rfl) (by kernel_rfl) (by kernel_rfl) (fun _ _ _ h => h) (Or.inl ⟨by rfl, ?y4⟩) hS0 ?r4
  case y4 =>
   intro w_ hS_
   obtain ⟨_, h_⟩ := hS_.2
   have c_ := cell_of_row _ _ 0 _ _ _ h_
   go_simp
   try with_reducible rfl
  simp only [Act.put, List.getElem_toArray, List.getElem_cons_succ, List.getElem_cons_zero, List.setIfInBounds_toArray, List.set_cons_succ, List.set_cons_zero]
  refine wpAnyH_take (i := 4) (v := .agg #[.int .u64 (n : Int), .slice da dl dc, .slice pa xs.length pc]) rfl (by kernel_rfl) (by kernel_rfl) (by kernel_rfl) (fun _ _ _ h => h) (yieldsIf_load_mid (by rfl) 78 _ rfl w.heap.size 0 rfl [.int .u64 (n : Int), .slice da dl dc, .slice pa xs.length pc] _ (fun _ h => range_row h.1) Tryz.underlying78 rfl infoV) hS0 ?_
  simp only [Act.put, List.getElem_toArray, List.getElem_cons_succ, List.getElem_cons_zero, List.setIfInBounds_toArray, List.set_cons_succ, List.set_cons_zero]
  have cC3 := cC2 hx
  clear cC2 hx
  refine wpAnyH_one (k := 5) (fuel := 2) (by kernel_rfl) rfl (by kernel_rfl) (fun K_ hK => ?_)
  refine wp_call_ex (R := fun u w' => Own w' w2.heap.size u L ∧ Below w2.heap.size w2 w') (by kernel_rfl) cC3 (fun u w3 hX_ => ?_)
  obtain ⟨hU, hb3⟩ := hX_
  have hU2 := own_down hU hb1.size
  have hb4 := Below.after hb1 hb3
  have hS3 : _ ∧ _ := ⟨hS0.1.keep hb3, hS0.2.keep hb3⟩
  refine hK _ _ hS3 ?_
  simp only [Act.put, List.getElem_toArray, List.getElem_cons_succ, List.getElem_cons_zero, List.setIfInBounds_toArray, List.set_cons_succ, List.set_cons_zero]
  clear hK cC3 hS0 hU hb3
  obtain ⟨ua, uc, rfl⟩ := slen_own hU2
  refine wpAnyH_one (k := 6) (fuel := 1) (by kernel_rfl) rfl (by kernel_rfl) (fun K_ hK => ?_)
  refine wp_pure_op (.slice ua L.length uc) (by kernel_rfl) ?_
  refine hK _ _ hS3 ?_
  simp only [Act.put, List.getElem_toArray, List.getElem_cons_succ, List.getElem_cons_zero, List.setIfInBounds_toArray, List.set_cons_succ, List.set_cons_zero]
  clear hK
  refine wpAnyH_one (k := 7) (fuel := 0) (by kernel_rfl) rfl (by kernel_rfl) (fun K_ hK => ?_)
  refine wp_pure_op .nilIface (by kernel_rfl) ?_
  refine hK _ _ hS3 ?_
  simp only [Act.put, List.getElem_toArray, List.getElem_cons_succ, List.getElem_cons_zero, List.setIfInBounds_toArray, List.set_cons_succ, List.set_cons_zero]
  clear hK hS3
  refine wpAnyH_done (by kernel_rfl) ?_ _
  go_wp2_with (fail)
  go_ret2
  exact ⟨⟨_, rfl, hU2⟩, hb4⟩
 | some f =>
  obtain ⟨q, rfl, h1, h2⟩ := hG
  have hq := neq_fault (.pointer (some ⟨q, 0, none⟩))
  clear rV rg
  go_wp2_with (fail)
  go_ret2
  exact ⟨⟨q, rfl, by omega, h2⟩, hb1⟩
end Go.Proofs.YtjoohgkgkabbpaaGreatDoor
namespace Go.Proofs.YtjoohgkgkabbpaaGreatDoor
set_option maxRecDepth 100000
open Go Go.RowKit Go.Sort
attribute [local go_sem] setCell_drewN alloc_drewN
def hdr : List Slt := [.mk 1 5 32 32 [], .mk 2 2 0 4294967295 [], .mk 3 2 0 4294967295 []]
def hcs : Array Value := #[.int .i64 1, .int .i64 5, .int .u64 32, .int .u64 32, .slice none 0 0, .int .i64 2, .int .i64 2, .int .u64 0, .int .u64 4294967295, .slice none 0 0, .int .i64 3, .int .i64 2, .int .u64 0, .int .u64 4294967295, .slice none 0 0]
theorem slo_nil (W : World) : Slo W (.slice none 0 0) [] := Slo.mk none 0 [] [] (by simp) (by simp) (fun _ => rfl) (fun i hi => by simp at hi) (fun i hi => by simp at hi)
theorem infoSlo : (Tryz.prog.info? 114).map (·.size) = some 5 := by kernel_rfl
set_option maxRecDepth 100000 in
set_option maxHeartbeats 4000000 in
theorem a_sized (no size : Int) (w : World) : Calls Tryz.prog 59 #[.int .i64 no, .int .u64 size] w fun e w' => e = .returned (.agg #[.int .i64 no, .int .i64 5, .int .u64 size, .int .u64 size, .slice none 0 0]) ∧ Below w.heap.size w w' := by
 have hb : Below w.heap.size w (w.alloc (.cells #[.int .i64 0, .int .i64 0, .int .u64 0, .int .u64 0, .slice none 0 0] 114)) := (Below.refl _ _).alloc (Nat.le_refl _) _
 have r1 := hp1_0 w (.cells #[.int .i64 0, .int .i64 0, .int .u64 0, .int .u64 0, .slice none 0 0] 114)
 have hb2 := below_setRow (g := w.heap.size) hb (Nat.le_refl _) #[.int .i64 no, .int .i64 5, .int .u64 size, .int .u64 size, .slice none 0 0]
 have r2 := setRow_heap _ w.heap.size _ (#[.int .i64 no, .int .i64 5, .int .u64 size, .int .u64 size, .slice none 0 0]) _ _ r1
 have hone : (#[Value.int .i64 no, .int .i64 5, .int .u64 size, .int .u64 size, .slice none 0 0] : Array Value).all (·.oneCell') = true := by simp [Value.oneCell']
 have A1 := hide hb2
 have A2 := hide r2
 clear hb hb2 r2
 go_enter Tryz.func59, Tryz.ntmps59
 go_wp2_with (first | (refine wpList_store_row rfl 114 _ _ rfl w.heap.size #[.int .i64 no, .int .i64 5, .int .u64 size, .int .u64 size, .slice none 0 0] rfl rfl 114 _ r1 infoSlo rfl hone ?_) | fail)
 exact bodyPost_ret (v := .agg #[.int .i64 no, .int .i64 5, .int .u64 size, .int .u64 size, .slice none 0 0]) (results_cell_row Tryz.results59 _ _ w.heap.size _ _ _ _ rfl A2.out Tryz.underlying114 rfl infoSlo) rfl ⟨rfl, A1.out⟩
end Go.Proofs.YtjoohgkgkabbpaaGreatDoor
namespace Go.Proofs.YtjoohgkgkabbpaaGreatDoor
set_option maxRecDepth 100000
open Go Go.RowKit Go.Sort
attribute [local go_sem] setCell_drewN alloc_drewN
section
variable {P : Program} {ops : Array Oper} {Q : Exit → Act → World → Prop} {md : Region.Mode} {S : World → Prop}
theorem wpAnyH_two {j k : Nat} {oj ok : Oper} {fuel : Nat} {listed : Array Bool} {a : Act} {w : World} (hr : Region.ready md ops listed = [j, k]) (hj : ops[j]? = some oj) (hk : ops[k]? = some ok) (wj : Region.wanted oj (yielded ops a.tmps) = true) (wk : Region.wanted ok (yielded ops a.tmps) = true)
 (h1 : ∀ K : Act → World → Prop, (∀ a' w', S w' → wpAnyH P md ops Q S fuel (listed.setIfInBounds j true) a' w' → K a' w') → oj.wp P a w K Q)
 (h2 : ∀ K : Act → World → Prop, (∀ a' w', S w' → wpAnyH P md ops Q S fuel (listed.setIfInBounds k true) a' w' → K a' w') → ok.wp P a w K Q) : wpAnyH P md ops Q S (fuel + 1) listed a w := by
 refine wpAnyH_all hr (by simp) (fun i hi' => ?_)
 obtain rfl | rfl : i = j ∨ i = k := by simpa using hi'
 ·unfold wpOp
  simp only [hj, wj, if_true]
  exact .inl (h1 _ (fun a' w' hS hn => ⟨hS, hn⟩))
 ·unfold wpOp
  simp only [hk, wk, if_true]
  exact .inl (h2 _ (fun a' w' hS hn => ⟨hS, hn⟩))
end
def hrw (pub : List B) (prev m : Nat) : Array Value := irow .u8 (bl pub) ++ #[.int .u32 (prev : Int), .int .u32 (m : Int)]
def hxs (g prev m : Nat) : List VR := [⟨0, some ⟨g, 0, none⟩, 32, 32, none, 0, 0⟩, ⟨prev, none, 0, 0, none, 0, 0⟩, ⟨m, none, 0, 0, none, 0, 0⟩]
def hps (g prev m : Nat) : Array Value := #[.int .u64 0, .slice (some ⟨g, 0, none⟩) 32 32, .slice none 0 0, .int .u64 (prev : Int), .slice none 0 0, .slice none 0 0, .int .u64 (m : Int), .slice none 0 0, .slice none 0 0]
end Go.Proofs.YtjoohgkgkabbpaaGreatDoor

