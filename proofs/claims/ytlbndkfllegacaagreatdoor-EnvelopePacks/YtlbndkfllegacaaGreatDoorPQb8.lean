import Derived.Test.YtlbndkfllegacaaGreatDoorPQb6
import Derived.Test.YtlbndkfllegacaaGreatDoorPQb7
import Derived.Test.YtlbndkfllegacaaGreatDoorPQb3
import Derived.OwnWalk
import Derived.Deep.Cut
import Derived.Deep.RegionHeld3
import Derived.Test.YtlbndkfllegacaaGreatDoorPQd4
import Derived.Test.YtlbndkfllegacaaGreatDoorPQc0
namespace Go.Proofs.YtlbndkfllegacaaGreatDoor
set_option maxRecDepth 100000
open Go Go.RowKit Go.Sort
attribute [local go_sem] setCell_drewN alloc_drewN
theorem wtK_ty {t : Slt} (hf : Fla t) : tyOf t.kind = wtK t := by
 unfold tyOf wtK
 rcases hf with q | q | q | q | q <;> rw [q] <;> rfl
theorem wpList_append_fi {w : World} {ops : Array Oper} {rest : List Oper} {o : Oper} {a : Act} {Q : Exit → Act → World → Prop} (hgd : o.guard = none) (s x : Operand)
   (ho : o.op = .call { callee := .builtin .append, args := #[s, x], argTypes := #[65, 65] })
   (base : Nat) (v : Value) (k : Nat) (xs : List Value) (hs : a.eval s = v) (hO : w.ownsRow base 70 4 v k xs) (hk : k ≤ 100)
   (cs : List Value) (hcl : cs.length = 4) (g : Nat) (hx : a.eval x = .slice (some ⟨g, 0, none⟩) 1 1) (hnews : ∀ j y, cs[j]? = some y → w.cell? ((⟨g, 0, none⟩ : Addr).add j) = some y) (h1 : ∀ u ∈ cs, u.oneCell' = true)
   (hbase : base ≤ w.heap.size)
   (h : ∀ v' w', w'.ownsRow base 70 4 v' (k + 1) (xs ++ cs) → w.grownBy w' v.ownBlock → Nx w v v' → wpList Tryz.prog ops Q rest (a.put o.dst v') w') : wpList Tryz.prog ops Q (o :: rest) a w := by
 obtain ⟨i0, hi, hz0, hz1, hz2⟩ := info48
 exact wpList_plain hgd fun _ hK => wp_append_nx s x 65 ho base 70 i0 (.agg #[.int .i64 0, .int .i64 0, .int .u64 0, .slice none 0 0]) 4 48 Tryz.underlying65 hi hz0 hz1 hz2 rfl (by decide) v k xs hs hO ⟨g, 0, none⟩ 1 1 cs hx (by rw [hcl]) hnews h1 (by unfold maxLen; omega) (by omega) hbase (fun v' w' h2 h3 h4 => hK _ _ (h v' w' h2 h3 h4))
set_option maxRecDepth 100000 in
set_option maxHeartbeats 8000000 in
theorem r_encodeF {sv : Value} {ts : List Slt} (hfl : ∀ i, i < ts.length → Fla (gs ts i)) (n : Nat) (da : Option Addr) (dl dc : Nat) (pv : Value) (xs : List VR) (ds : List (List B)) (w : World) (h : Slo w sv ts) (hl16 : ts.length ≤ 16) (hP : Prt w pv xs) (hlx : xs.length = ts.length)
   (hB : ∀ i, i < ts.length → BysB w (.slice (gx xs i).da (gx xs i).dl (gx xs i).dc) (gd1 ds i) ∧ Fok (fdF (gs ts i) (gx xs i) (gd1 ds i))) :
   Calls Tryz.prog 74 #[sv, .agg (vrw n (.slice da dl dc) pv)] w fun e w' => ∃ u, e = .returned u ∧ Own w' w.heap.size u (eout (fdk ts xs ds ts.length)) ∧ Below w.heap.size w w' := by
 cases h with
 | mk ao cap ts us hl hc hnn h hs =>
   have hsf : ∀ i, i < ts.length → ∃ so sn sc, gvs us i = .slice so sn sc := fun i hi => by obtain ⟨a, c, e⟩ := (hs i hi).form; exact ⟨_, _, _, e⟩
   clear hs
   obtain ⟨pa, pc, rfl, hpc, hpn, hpr⟩ := hP
   rw [hlx] at hpc hpr ⊢
   clear hpn
   have hb0 : Below w.heap.size w (w.alloc (.cells (vrw n (.slice da dl dc) (.slice pa ts.length pc)) 76)) := (Below.refl _ _).alloc (Nat.le_refl _) _
   have rV := hp1_0 w (.cells (vrw n (.slice da dl dc) (.slice pa ts.length pc)) 76)
   have cE := hide (fun (V : World) (u : Value) (h : Fds V u (fdk ts xs ds ts.length)) => r_encode (fdk ts xs ds ts.length) V u h)
   have hBh := hide hB
   unfold vrw at rV hb0 ⊢
   go_enter Tryz.func74, Tryz.ntmps74
   go_wp2_with (fail)
   generalize w.alloc (.cells #[.int .u64 (n : Int), .slice da dl dc, .slice pa ts.length pc] 76) = w0 at *
   go_loopw [6, 5, 7, 8, 9, 10] (fun i out _ _ _ _ wr => ∃ k : Nat, k ≤ ts.length ∧ i = .int .i64 k ∧ wr.ownsRow w.heap.size 70 4 out k (frk ts xs k) ∧ Below w.heap.size w wr ∧ Bx wr w.heap.size #[.int .u64 (n : Int), .slice da dl dc, .slice pa ts.length pc] ∧ out.ownBlock ≠ some w.heap.size) (fun i _ _ _ _ _ _ => ts.length - (intOf i).toNat)
   case atStart => exact ⟨0, by omega, rfl, ⟨rfl, .inl ⟨rfl, rfl⟩⟩, hb0, ⟨_, rV⟩, by simp [Value.ownBlock]⟩
   case round =>
     clear rV hb0
     obtain ⟨k, hk, rfl, hO, hb, rV, hne⟩ := hrel
     obtain ⟨mo_, mc, rfl⟩ := own_slice hO
     by_cases hlt : k < ts.length
     · have hd : decide ((k : Int) < (ts.length : Int)) = true := by simp; omega
       obtain ⟨b, off, rfl, hbl, hra, hsok⟩ := h k hlt
       obtain ⟨pb, poff, rfl, hpb, hpra⟩ := hpr k hlt
       obtain ⟨so, sn, sc, hsu⟩ := hsf k hlt
       rw [hsu] at hra
       have hsw := rangeS_keep2 hra hb hbl
       have hpw := rangeS_keep2 hpra hb hpb
       have cT := hide (show Gives 88 #[.int .i64 (gs ts k).kind] (.int .i64 (wtK (gs ts k))) by rw [← wtK_ty (hfl k hlt)]; exact r_typeOf _)
       have k8 : ¬ (gs ts k).kind = 8 := by rcases hfl k hlt with q | q | q | q | q <;> omega
       have k9 : ¬ (gs ts k).kind = 9 := by rcases hfl k hlt with q | q | q | q | q <;> omega
       have efr : frk ts xs (k + 1) = frk ts xs k ++ [.int .i64 (gs ts k).no, .int .i64 (wtK (gs ts k)), .int .u64 ((gx xs k).num : Int), .slice (gx xs k).da (gx xs k).dl (gx xs k).dc] := rfl
       unfold srow at hsw hra
       generalize (gs ts k).no = no at *
       generalize wtK (gs ts k) = wk at *
       generalize (gs ts k).kind = kd at *
       generalize ((gs ts k).least : Int) = l at *
       generalize ((gs ts k).most : Int) = mo at *
       generalize gx xs k = x at *
       obtain ⟨xn, xda, xdl, xdc, xpa, xpl, xpc⟩ := x
       unfold vrv vrw at hpw
       have b8 : (kd == 8) = false := by simpa using k8
       have b9 : (kd == 9) = false := by simpa using k9
       have A0 := hide efr
       have A8 := hide (own_lt hO)
       have A9 := hide hne
       have hba : Below wr.heap.size wr (wr.alloc (.cells #[.int .u64 0, .slice none 0 0, .slice none 0 0] 76)) := (Below.refl _ _).alloc (Nat.le_refl _) _
       have rS := hp1_0 wr (.cells #[.int .u64 0, .slice none 0 0, .slice none 0 0] 76)
       have hbb := below_setRow (g := wr.heap.size) hba (Nat.le_refl _) #[.int .u64 (xn : Int), .slice xda xdl xdc, .slice xpa xpl xpc]
       have rX := setRow_heap _ wr.heap.size _ #[.int .u64 (xn : Int), .slice xda xdl xdc, .slice xpa xpl xpc] _ _ rS
       have hone : (#[.int .u64 (xn : Int), .slice xda xdl xdc, .slice xpa xpl xpc] : Array Value).all (·.oneCell') = true := by simp [Value.oneCell']
       have hlV := rV.lt
       have cV : wr.cell? ⟨w.heap.size, 2, none⟩ = some (.slice (some ⟨pb, poff, none⟩) ts.length pc) := by obtain ⟨_, h_⟩ := rV; rw [cell_of_row _ _ _ _ _ _ h_]; rfl
       have A1 := hide (rangeS_keep2 hsw hbb (Nat.lt_of_lt_of_le hbl hb.size))
       have A2 := hide (Below.after hb hbb)
       have A3 := hide (own_but (w' := (wr.alloc (.cells #[.int .u64 0, .slice none 0 0, .slice none 0 0] 76)).setRow wr.heap.size #[.int .u64 (xn : Int), .slice xda xdl xdc, .slice xpa xpl xpc]) hO fun q hq => hbb.block q (own_lt hO q hq).2)
       have A4 := hide (rV.keep hbb)
       have A5 := hide rX
       clear efr hO hb rV hne hsw rX hra hpra h hpr hfl hsok hsu hsf hB hba hbb
       go_wp2_with (first | (refine wpList_load_mid rfl 76 _ rfl pb (poff + k * 3) rfl _ _ hpw Tryz.underlying76 rfl infoV ?_) | (refine wpList_store_row rfl 76 _ _ rfl wr.heap.size #[.int .u64 (xn : Int), .slice xda xdl xdc, .slice xpa xpl xpc] rfl rfl 76 _ rS infoV rfl hone ?_) | fail)
       have hsw := A1.out
       have hb := A2.out
       have hO := A3.out
       have rV := A4.out
       have rX := A5.out
       clear A1 A2 A3 A4 A5 rS cV hpw
       have hgx : wr.heap.size < _ := lt_of_row rX
       generalize (wr.alloc (.cells #[.int .u64 0, .slice none 0 0, .slice none 0 0] 76)).setRow wr.heap.size #[.int .u64 (xn : Int), .slice xda xdl xdc, .slice xpa xpl xpc] = w2 at *
       generalize hgxe : wr.heap.size = gx_ at *
       replace hgxe := hide hgxe
       have hS0 : (fun W : World => Bx W gx_ #[.int .u64 (xn : Int), .slice xda xdl xdc, .slice xpa xpl xpc] ∧ W.rangeAt b (off + k * 5) [.int .i64 no, .int .i64 kd, .int .u64 l, .int .u64 mo, .slice so sn sc]) w2 := ⟨⟨_, rX⟩, hsw⟩
       refine wp_region_held (S := fun W : World => Bx W gx_ #[.int .u64 (xn : Int), .slice xda xdl xdc, .slice xpa xpl xpc] ∧ W.rangeAt b (off + k * 5) [.int .i64 no, .int .i64 kd, .int .u64 l, .int .u64 mo, .slice so sn sc]) (by kernel_rfl) ?_
       change wpAnyH _ _ _ _ _ _ _ _ (World.drew _)
       have hbd : Below w2.heap.size w2 w2.drew := below_drN (Below.refl _ _) 1
       replace hS0 : (fun W : World => Bx W gx_ #[.int .u64 (xn : Int), .slice xda xdl xdc, .slice xpa xpl xpc] ∧ W.rangeAt b (off + k * 5) [.int .i64 no, .int .i64 kd, .int .u64 l, .int .u64 mo, .slice so sn sc]) w2.drew := ⟨hS0.1.keep hbd, rangeS_keep2 hS0.2 hbd (by have := hS0.1.lt; omega)⟩
       replace hb := Below.after hb hbd
       replace hO := own_but (w' := w2.drew) hO fun q hq => hbd.block q (own_lt hO q hq).2
       replace rV : Bx w2.drew w.heap.size #[.int .u64 (n : Int), .slice da dl dc, .slice (some ⟨pb, poff, none⟩) ts.length pc] := rV.keep hbd
       clear hbd rX hsw
       generalize w2.drew = w3 at *
       refine wpAnyH_take (i := 0) (v := ?v1) rfl (by kernel_rfl) (by kernel_rfl) (by kernel_rfl) (fun _ _ _ h => h) (Or.inl ⟨by rfl, ?y1⟩) hS0 ?r1
       case y1 =>
         intro w_ hS_
         go_simp
         try with_reducible rfl
       simp only [Act.put, List.getElem_toArray, List.getElem_cons_zero, List.setIfInBounds_toArray, List.set_cons_succ, List.set_cons_zero]
       refine wpAnyH_take (i := 1) (v := ?v2) rfl (by kernel_rfl) (by kernel_rfl) (by kernel_rfl) (fun _ _ _ h => h) (Or.inl ⟨by rfl, ?y2⟩) hS0 ?r2
       case y2 =>
         intro w_ hS_
         go_simp
         try with_reducible rfl
       simp only [Act.put, List.getElem_toArray, List.getElem_cons_succ, List.getElem_cons_zero, List.setIfInBounds_toArray, List.set_cons_succ, List.set_cons_zero]
       refine wpAnyH_take (i := 2) (v := ?v3) rfl (by kernel_rfl) (by kernel_rfl) (by kernel_rfl) (fun _ _ _ h => h) (Or.inl ⟨by rfl, ?y3⟩) hS0 ?r3
       case y3 =>
         intro w_ hS_
         go_simp
         try with_reducible rfl
       simp only [Act.put, List.getElem_toArray, List.getElem_cons_succ, List.getElem_cons_zero, List.setIfInBounds_toArray, List.set_cons_succ, List.set_cons_zero]
       refine wpAnyH_take (i := 3) (v := ?v4) rfl (by kernel_rfl) (by kernel_rfl) (by kernel_rfl) (fun _ _ _ h => h) (Or.inl ⟨by rfl, ?y4⟩) hS0 ?r4
       case y4 =>
         intro w_ hS_
         go_simp
         try with_reducible rfl
       simp only [Act.put, List.getElem_toArray, List.getElem_cons_succ, List.getElem_cons_zero, List.setIfInBounds_toArray, List.set_cons_succ, List.set_cons_zero]
       refine wpAnyH_take (i := 4) (v := .int .i64 no) rfl (by kernel_rfl) (by kernel_rfl) (by kernel_rfl) (fun _ _ _ h => h) (Or.inl ⟨by rfl, ?y5⟩) hS0 ?r5
       case y5 =>
         intro w_ hS_
         have c_ : w_.cell? ⟨b, off + k * 5, none⟩ = some (.int .i64 no) := hS_.2 0 _ rfl
         go_simp
         try with_reducible rfl
       simp only [Act.put, List.getElem_toArray, List.getElem_cons_succ, List.getElem_cons_zero, List.setIfInBounds_toArray, List.set_cons_succ, List.set_cons_zero]
       refine wpAnyH_take (i := 5) (v := ?v6) rfl (by kernel_rfl) (by kernel_rfl) (by kernel_rfl) (fun _ _ _ h => h) (Or.inl ⟨by rfl, ?y6⟩) hS0 ?r6
       case y6 =>
         intro w_ hS_
         go_simp
         try with_reducible rfl
       simp only [Act.put, List.getElem_toArray, List.getElem_cons_succ, List.getElem_cons_zero, List.setIfInBounds_toArray, List.set_cons_succ, List.set_cons_zero]
       refine wpAnyH_take (i := 6) (v := ?v7) rfl (by kernel_rfl) (by kernel_rfl) (by kernel_rfl) (fun _ _ _ h => h) (Or.inl ⟨by rfl, ?y7⟩) hS0 ?r7
       case y7 =>
         intro w_ hS_
         go_simp
         try with_reducible rfl
       simp only [Act.put, List.getElem_toArray, List.getElem_cons_succ, List.getElem_cons_zero, List.setIfInBounds_toArray, List.set_cons_succ, List.set_cons_zero]
       refine wpAnyH_take (i := 7) (v := ?v8) rfl (by kernel_rfl) (by kernel_rfl) (by kernel_rfl) (fun _ _ _ h => h) (Or.inl ⟨by rfl, ?y8⟩) hS0 ?r8
       case y8 =>
         intro w_ hS_
         go_simp
         try with_reducible rfl
       simp only [Act.put, List.getElem_toArray, List.getElem_cons_succ, List.getElem_cons_zero, List.setIfInBounds_toArray, List.set_cons_succ, List.set_cons_zero]
       refine wpAnyH_take (i := 8) (v := ?v9) rfl (by kernel_rfl) (by kernel_rfl) (by kernel_rfl) (fun _ _ _ h => h) (Or.inl ⟨by rfl, ?y9⟩) hS0 ?r9
       case y9 =>
         intro w_ hS_
         go_simp
         try with_reducible rfl
       simp only [Act.put, List.getElem_toArray, List.getElem_cons_succ, List.getElem_cons_zero, List.setIfInBounds_toArray, List.set_cons_succ, List.set_cons_zero]
       refine wpAnyH_take (i := 9) (v := .int .i64 kd) rfl (by kernel_rfl) (by kernel_rfl) (by kernel_rfl) (fun _ _ _ h => h) (Or.inl ⟨by rfl, ?y10⟩) hS0 ?r10
       case y10 =>
         intro w_ hS_
         have c_ : w_.cell? ⟨b, off + k * 5 + 1, none⟩ = some (.int .i64 kd) := hS_.2 1 _ rfl
         go_simp
         try with_reducible rfl
       simp only [Act.put, List.getElem_toArray, List.getElem_cons_succ, List.getElem_cons_zero, List.setIfInBounds_toArray, List.set_cons_succ, List.set_cons_zero]
       refine wpAnyH_take (i := 11) (v := ?v11) rfl (by kernel_rfl) (by kernel_rfl) (by kernel_rfl) (fun _ _ _ h => h) (Or.inl ⟨by rfl, ?y11⟩) hS0 ?r11
       case y11 =>
         intro w_ hS_
         go_simp
         try with_reducible rfl
       simp only [Act.put, List.getElem_toArray, List.getElem_cons_succ, List.getElem_cons_zero, List.setIfInBounds_toArray, List.set_cons_succ, List.set_cons_zero]
       refine wpAnyH_take (i := 12) (v := .int .u64 (xn : Int)) rfl (by kernel_rfl) (by kernel_rfl) (by kernel_rfl) (fun _ _ _ h => h) (Or.inl ⟨by rfl, ?y12⟩) hS0 ?r12
       case y12 =>
         intro w_ hS_
         obtain ⟨_, h_⟩ := hS_.1
         have c_ := cell_of_row _ _ 0 _ _ _ h_
         go_simp
         try with_reducible rfl
       simp only [Act.put, List.getElem_toArray, List.getElem_cons_succ, List.getElem_cons_zero, List.setIfInBounds_toArray, List.set_cons_succ, List.set_cons_zero]
       refine wpAnyH_take (i := 13) (v := ?v13) rfl (by kernel_rfl) (by kernel_rfl) (by kernel_rfl) (fun _ _ _ h => h) (Or.inl ⟨by rfl, ?y13⟩) hS0 ?r13
       case y13 =>
         intro w_ hS_
         go_simp
         try with_reducible rfl
       simp only [Act.put, List.getElem_toArray, List.getElem_cons_succ, List.getElem_cons_zero, List.setIfInBounds_toArray, List.set_cons_succ, List.set_cons_zero]
       refine wpAnyH_take (i := 14) (v := .slice xda xdl xdc) rfl (by kernel_rfl) (by kernel_rfl) (by kernel_rfl) (fun _ _ _ h => h) (Or.inl ⟨by rfl, ?y14⟩) hS0 ?r14
       case y14 =>
         intro w_ hS_
         obtain ⟨_, h_⟩ := hS_.1
         have c_ := cell_of_row _ _ 1 _ _ _ h_
         go_simp
         try with_reducible rfl
       simp only [Act.put, List.getElem_toArray, List.getElem_cons_succ, List.getElem_cons_zero, List.setIfInBounds_toArray, List.set_cons_succ, List.set_cons_zero]
       have hgx2 := Nat.lt_of_lt_of_le hbl (Nat.le_refl _)
       have hgw : w.heap.size ≤ gx_ := by omega
       refine wpAnyH_two (j := 10) (k := 16) (fuel := 3) (by kernel_rfl) rfl rfl (by kernel_rfl) (by kernel_rfl) (fun K_ hK => ?_) (fun K_ hK => ?_)
       · have cX := (cT.out.at w3).mono (fun e w' h => (⟨_, h.1, rfl, h.2⟩ : ∃ v, e = .returned v ∧ v = .int .i64 wk ∧ Below w3.heap.size w3 w'))
         refine wp_call_ex (R := fun v w' => v = .int .i64 wk ∧ Below w3.heap.size w3 w') (by kernel_rfl) cX (fun v_ w4 hX_ => ?_)
         obtain ⟨rfl, hbx⟩ := hX_
         replace hS0 : (fun W : World => Bx W gx_ #[.int .u64 (xn : Int), .slice xda xdl xdc, .slice xpa xpl xpc] ∧ W.rangeAt b (off + k * 5) [.int .i64 no, .int .i64 kd, .int .u64 l, .int .u64 mo, .slice so sn sc]) w4 := ⟨hS0.1.keep hbx, rangeS_keep2 hS0.2 hbx (by have := hS0.1.lt; omega)⟩
         replace hb := Below.after hb hbx
         replace hO := own_but (w' := w4) hO fun q hq => hbx.block q (own_lt hO q hq).2
         replace rV : Bx w4 w.heap.size #[.int .u64 (n : Int), .slice da dl dc, .slice (some ⟨pb, poff, none⟩) ts.length pc] := rV.keep hbx
         refine hK _ _ hS0 ?_
         simp only [Act.put, List.getElem_toArray, List.getElem_cons_succ, List.getElem_cons_zero, List.setIfInBounds_toArray, List.set_cons_succ, List.set_cons_zero]
         clear hK
         clear cX hbx
         refine wpAnyH_take (i := 15) (v := .agg #[.int .i64 no, .int .i64 wk, .int .u64 (xn : Int), .slice xda xdl xdc]) rfl (by kernel_rfl) (by kernel_rfl) (by kernel_rfl) (fun _ _ _ h => h) (Or.inl ⟨by rfl, ?y101⟩) hS0 ?r101
         case y101 =>
           intro w_ hS_
           go_simp
           try with_reducible rfl
         simp only [Act.put, List.getElem_toArray, List.getElem_cons_succ, List.getElem_cons_zero, List.setIfInBounds_toArray, List.set_cons_succ, List.set_cons_zero]
         refine wpAnyH_one (k := 16) (fuel := 1) (by kernel_rfl) rfl (by kernel_rfl) (fun K_ hK => ?_)
         refine wp_val_op (.pointer (some ⟨w4.heap.size, 0, none⟩)) (w' := w4.alloc (.cells #[.int .i64 0, .int .i64 0, .int .u64 0, .slice none 0 0] 70)) (by kernel_rfl) ?_
         have hba : Below w4.heap.size w4 (w4.alloc (.cells #[.int .i64 0, .int .i64 0, .int .u64 0, .slice none 0 0] 70)) := (Below.refl _ _).alloc (Nat.le_refl _) _
         have rG := hp1_0 w4 (.cells #[.int .i64 0, .int .i64 0, .int .u64 0, .slice none 0 0] 70)
         have hgl : gx_ < w4.heap.size := hS0.1.lt
         have hgo : ∀ q, (Value.slice mo_ k mc).ownBlock = some q → q < w4.heap.size := fun q hq => (own_lt hO q hq).2
         replace hS0 : (fun W : World => Bx W gx_ #[.int .u64 (xn : Int), .slice xda xdl xdc, .slice xpa xpl xpc] ∧ W.rangeAt b (off + k * 5) [.int .i64 no, .int .i64 kd, .int .u64 l, .int .u64 mo, .slice so sn sc]) (w4.alloc (.cells #[.int .i64 0, .int .i64 0, .int .u64 0, .slice none 0 0] 70)) := ⟨hS0.1.keep hba, rangeS_keep2 hS0.2 hba (by have := hS0.1.lt; omega)⟩
         replace hb := Below.after hb hba
         replace hO := own_but (w' := (w4.alloc (.cells #[.int .i64 0, .int .i64 0, .int .u64 0, .slice none 0 0] 70))) hO fun q hq => hba.block q (own_lt hO q hq).2
         replace rV : Bx (w4.alloc (.cells #[.int .i64 0, .int .i64 0, .int .u64 0, .slice none 0 0] 70)) w.heap.size #[.int .u64 (n : Int), .slice da dl dc, .slice (some ⟨pb, poff, none⟩) ts.length pc] := rV.keep hba
         refine hK _ _ hS0 ?_
         simp only [Act.put, List.getElem_toArray, List.getElem_cons_succ, List.getElem_cons_zero, List.setIfInBounds_toArray, List.set_cons_succ, List.set_cons_zero]
         clear hK
         clear hba
         generalize w4.alloc (.cells #[.int .i64 0, .int .i64 0, .int .u64 0, .slice none 0 0] 70) = w5 at *
         generalize w4.heap.size = gf at *
         have hone2 : (#[.int .i64 no, .int .i64 wk, .int .u64 (xn : Int), .slice xda xdl xdc] : Array Value).all (·.oneCell') = true := by simp [Value.oneCell']
         refine wpAnyH_one (k := 17) (fuel := 0) (by kernel_rfl) rfl (by kernel_rfl) (fun K_ hK => ?_)
         refine wp_store_row 70 _ _ rfl gf #[.int .i64 no, .int .i64 wk, .int .u64 (xn : Int), .slice xda xdl xdc] rfl rfl 70 _ rG infoFi rfl hone2 ?_
         have rG5 := setRow_heap w5 gf _ #[.int .i64 no, .int .i64 wk, .int .u64 (xn : Int), .slice xda xdl xdc] _ _ rG
         have hb5 := below_setRow (g := gf) hb (by omega) #[.int .i64 no, .int .i64 wk, .int .u64 (xn : Int), .slice xda xdl xdc]
         have hO5 := own_but (w' := w5.setRow gf #[.int .i64 no, .int .i64 wk, .int .u64 (xn : Int), .slice xda xdl xdc]) hO fun q hq => setRow_other w5 gf q _ (by have := hgo q hq; omega)
         have rV5 : Bx (w5.setRow gf #[.int .i64 no, .int .i64 wk, .int .u64 (xn : Int), .slice xda xdl xdc]) w.heap.size #[.int .u64 (n : Int), .slice da dl dc, .slice (some ⟨pb, poff, none⟩) ts.length pc] := rV.row (by omega)
         have hS5 : (fun W : World => Bx W gx_ #[.int .u64 (xn : Int), .slice xda xdl xdc, .slice xpa xpl xpc] ∧ W.rangeAt b (off + k * 5) [.int .i64 no, .int .i64 kd, .int .u64 l, .int .u64 mo, .slice so sn sc]) (w5.setRow gf #[.int .i64 no, .int .i64 wk, .int .u64 (xn : Int), .slice xda xdl xdc]) := ⟨hS0.1.row (by omega), range_same hS0.2 (setRow_other w5 gf b _ (by omega))⟩
         refine hK _ _ hS5 ?_
         simp only [Act.put, List.getElem_toArray, List.getElem_cons_succ, List.getElem_cons_zero]
         clear hK hS0 rG hb hO rV
         generalize w5.setRow gf #[.int .i64 no, .int .i64 wk, .int .u64 (xn : Int), .slice xda xdl xdc] = w6 at *
         have cK : w6.cell? ⟨b, off + k * 5 + 1, none⟩ = some (.int .i64 kd) := hS5.2 1 _ rfl
         have hba : Below w6.heap.size w6 (w6.alloc (.cells #[.int .i64 no, .int .i64 wk, .int .u64 (xn : Int), .slice xda xdl xdc] 70)) := (Below.refl _ _).alloc (Nat.le_refl _) _
         have r7 := hp1_0 w6 (.cells #[.int .i64 no, .int .i64 wk, .int .u64 (xn : Int), .slice xda xdl xdc] 70)
         have hO7 := own_but (w' := w6.alloc (.cells #[.int .i64 no, .int .i64 wk, .int .u64 (xn : Int), .slice xda xdl xdc] 70)) hO5 fun q hq => hba.block q (own_lt hO5 q hq).2
         have hnews : ∀ j y, #[.int .i64 no, .int .i64 wk, .int .u64 (xn : Int), .slice xda xdl xdc].toList[j]? = some y → (w6.alloc (.cells #[.int .i64 no, .int .i64 wk, .int .u64 (xn : Int), .slice xda xdl xdc] 70)).cell? ((⟨w6.heap.size, 0, none⟩ : Addr).add j) = some y := fun j y hy => by rw [add_off, cell_of_row _ _ _ _ _ _ r7]; simpa using hy
         have B1 := hide (Below.after hb5 hba)
         have B2 := hide (rV5.keep hba)
         have hbs : w.heap.size ≤ (w6.alloc (.cells #[.int .i64 no, .int .i64 wk, .int .u64 (xn : Int), .slice xda xdl xdc] 70)).heap.size := B1.out.size
         clear hb5 hO5 rV5 hS5 hba r7
         refine wpAnyH_done (by kernel_rfl) ?_ _
         have hone3 : ∀ u ∈ (#[.int .i64 no, .int .i64 wk, .int .u64 (xn : Int), .slice xda xdl xdc] : Array Value).toList, Value.oneCell' u = true := by simp [Value.oneCell']
         go_wp2_with (first | (refine wpList_load_want rfl 70 _ rfl gf rfl 70 _ (0, 0) _ rG5 Tryz.underlying70 rfl infoFi ?_) | (at_builtin; refine wpList_append_fi rfl (.tmp 85) (.tmp 87) rfl w.heap.size _ k _ rfl hO7 (by omega) #[.int .i64 no, .int .i64 wk, .int .u64 (xn : Int), .slice xda xdl xdc].toList rfl w6.heap.size rfl hnews hone3 hbs ?_) | fail)
         intro v' w7 h1 h2 h3
         have hB7 : Below w.heap.size w w7 := B1.out.grown h2 hbs (fun q hq => (A8.out q hq).1)
         have rV7 : Bx w7 w.heap.size _ := B2.out.same (h2.block _ B2.out.lt (fun e => A9.out e.symm))
         have hne7 : v'.ownBlock ≠ some w.heap.size := fun e => by
           rcases h3 with q | ⟨q, q1, q2⟩
           · exact A9.out (q.symm.trans e)
           · rw [q1] at e
             injection e with e
             have := B2.out.lt
             omega
         replace h1 : w7.ownsRow w.heap.size 70 4 v' (k + 1) (frk ts xs (k + 1)) := by rw [A0.out]; exact h1
         obtain ⟨vo, vc, rfl⟩ := own_slice h1
         have C1 := hide h1
         have C2 := hide hB7
         have C3 := hide hne7
         have C4 := hide rV7
         clear h1 h2 h3 hB7 hne7 rV7 hO7 hnews B1 B2 rG5 cK
         go_wp2_with (fail)
         refine ⟨⟨k + 1, by omega, by go_num, C1.out, C2.out, C4.out, C3.out⟩, ?_⟩
         simp [intOf]; omega
       · refine wp_val_op (.pointer (some ⟨w3.heap.size, 0, none⟩)) (w' := w3.alloc (.cells #[.int .i64 0, .int .i64 0, .int .u64 0, .slice none 0 0] 70)) (by kernel_rfl) ?_
         have hba : Below w3.heap.size w3 (w3.alloc (.cells #[.int .i64 0, .int .i64 0, .int .u64 0, .slice none 0 0] 70)) := (Below.refl _ _).alloc (Nat.le_refl _) _
         have rG := hp1_0 w3 (.cells #[.int .i64 0, .int .i64 0, .int .u64 0, .slice none 0 0] 70)
         have hgl : gx_ < w3.heap.size := hS0.1.lt
         have hgo : ∀ q, (Value.slice mo_ k mc).ownBlock = some q → q < w3.heap.size := fun q hq => (own_lt hO q hq).2
         replace hS0 : (fun W : World => Bx W gx_ #[.int .u64 (xn : Int), .slice xda xdl xdc, .slice xpa xpl xpc] ∧ W.rangeAt b (off + k * 5) [.int .i64 no, .int .i64 kd, .int .u64 l, .int .u64 mo, .slice so sn sc]) (w3.alloc (.cells #[.int .i64 0, .int .i64 0, .int .u64 0, .slice none 0 0] 70)) := ⟨hS0.1.keep hba, rangeS_keep2 hS0.2 hba (by have := hS0.1.lt; omega)⟩
         replace hb := Below.after hb hba
         replace hO := own_but (w' := (w3.alloc (.cells #[.int .i64 0, .int .i64 0, .int .u64 0, .slice none 0 0] 70))) hO fun q hq => hba.block q (own_lt hO q hq).2
         replace rV : Bx (w3.alloc (.cells #[.int .i64 0, .int .i64 0, .int .u64 0, .slice none 0 0] 70)) w.heap.size #[.int .u64 (n : Int), .slice da dl dc, .slice (some ⟨pb, poff, none⟩) ts.length pc] := rV.keep hba
         refine hK _ _ hS0 ?_
         simp only [Act.put, List.getElem_toArray, List.getElem_cons_succ, List.getElem_cons_zero, List.setIfInBounds_toArray, List.set_cons_succ, List.set_cons_zero]
         clear hK
         clear hba
         generalize w3.alloc (.cells #[.int .i64 0, .int .i64 0, .int .u64 0, .slice none 0 0] 70) = w4 at *
         generalize w3.heap.size = gf at *
         refine wpAnyH_one (k := 10) (fuel := 2) (by kernel_rfl) rfl (by kernel_rfl) (fun K_ hK => ?_)
         have cX := (cT.out.at w4).mono (fun e w' h => (⟨_, h.1, rfl, h.2⟩ : ∃ v, e = .returned v ∧ v = .int .i64 wk ∧ Below w4.heap.size w4 w'))
         refine wp_call_ex (R := fun v w' => v = .int .i64 wk ∧ Below w4.heap.size w4 w') (by kernel_rfl) cX (fun v_ w5 hX_ => ?_)
         obtain ⟨rfl, hbx⟩ := hX_
         replace hS0 : (fun W : World => Bx W gx_ #[.int .u64 (xn : Int), .slice xda xdl xdc, .slice xpa xpl xpc] ∧ W.rangeAt b (off + k * 5) [.int .i64 no, .int .i64 kd, .int .u64 l, .int .u64 mo, .slice so sn sc]) w5 := ⟨hS0.1.keep hbx, rangeS_keep2 hS0.2 hbx (by have := hS0.1.lt; omega)⟩
         replace hb := Below.after hb hbx
         replace hO := own_but (w' := w5) hO fun q hq => hbx.block q (own_lt hO q hq).2
         replace rV : Bx w5 w.heap.size #[.int .u64 (n : Int), .slice da dl dc, .slice (some ⟨pb, poff, none⟩) ts.length pc] := rV.keep hbx
         replace rG := keep hbx rG
         refine hK _ _ hS0 ?_
         simp only [Act.put, List.getElem_toArray, List.getElem_cons_succ, List.getElem_cons_zero, List.setIfInBounds_toArray, List.set_cons_succ, List.set_cons_zero]
         clear hK
         clear cX hbx
         refine wpAnyH_take (i := 15) (v := .agg #[.int .i64 no, .int .i64 wk, .int .u64 (xn : Int), .slice xda xdl xdc]) rfl (by kernel_rfl) (by kernel_rfl) (by kernel_rfl) (fun _ _ _ h => h) (Or.inl ⟨by rfl, ?y102⟩) hS0 ?r102
         case y102 =>
           intro w_ hS_
           go_simp
           try with_reducible rfl
         simp only [Act.put, List.getElem_toArray, List.getElem_cons_succ, List.getElem_cons_zero, List.setIfInBounds_toArray, List.set_cons_succ, List.set_cons_zero]
         have hone2 : (#[.int .i64 no, .int .i64 wk, .int .u64 (xn : Int), .slice xda xdl xdc] : Array Value).all (·.oneCell') = true := by simp [Value.oneCell']
         refine wpAnyH_one (k := 17) (fuel := 0) (by kernel_rfl) rfl (by kernel_rfl) (fun K_ hK => ?_)
         refine wp_store_row 70 _ _ rfl gf #[.int .i64 no, .int .i64 wk, .int .u64 (xn : Int), .slice xda xdl xdc] rfl rfl 70 _ rG infoFi rfl hone2 ?_
         have rG5 := setRow_heap w5 gf _ #[.int .i64 no, .int .i64 wk, .int .u64 (xn : Int), .slice xda xdl xdc] _ _ rG
         have hb5 := below_setRow (g := gf) hb (by omega) #[.int .i64 no, .int .i64 wk, .int .u64 (xn : Int), .slice xda xdl xdc]
         have hO5 := own_but (w' := w5.setRow gf #[.int .i64 no, .int .i64 wk, .int .u64 (xn : Int), .slice xda xdl xdc]) hO fun q hq => setRow_other w5 gf q _ (by have := hgo q hq; omega)
         have rV5 : Bx (w5.setRow gf #[.int .i64 no, .int .i64 wk, .int .u64 (xn : Int), .slice xda xdl xdc]) w.heap.size #[.int .u64 (n : Int), .slice da dl dc, .slice (some ⟨pb, poff, none⟩) ts.length pc] := rV.row (by omega)
         have hS5 : (fun W : World => Bx W gx_ #[.int .u64 (xn : Int), .slice xda xdl xdc, .slice xpa xpl xpc] ∧ W.rangeAt b (off + k * 5) [.int .i64 no, .int .i64 kd, .int .u64 l, .int .u64 mo, .slice so sn sc]) (w5.setRow gf #[.int .i64 no, .int .i64 wk, .int .u64 (xn : Int), .slice xda xdl xdc]) := ⟨hS0.1.row (by omega), range_same hS0.2 (setRow_other w5 gf b _ (by omega))⟩
         refine hK _ _ hS5 ?_
         simp only [Act.put, List.getElem_toArray, List.getElem_cons_succ, List.getElem_cons_zero]
         clear hK hS0 rG hb hO rV
         generalize w5.setRow gf #[.int .i64 no, .int .i64 wk, .int .u64 (xn : Int), .slice xda xdl xdc] = w6 at *
         have cK : w6.cell? ⟨b, off + k * 5 + 1, none⟩ = some (.int .i64 kd) := hS5.2 1 _ rfl
         have hba : Below w6.heap.size w6 (w6.alloc (.cells #[.int .i64 no, .int .i64 wk, .int .u64 (xn : Int), .slice xda xdl xdc] 70)) := (Below.refl _ _).alloc (Nat.le_refl _) _
         have r7 := hp1_0 w6 (.cells #[.int .i64 no, .int .i64 wk, .int .u64 (xn : Int), .slice xda xdl xdc] 70)
         have hO7 := own_but (w' := w6.alloc (.cells #[.int .i64 no, .int .i64 wk, .int .u64 (xn : Int), .slice xda xdl xdc] 70)) hO5 fun q hq => hba.block q (own_lt hO5 q hq).2
         have hnews : ∀ j y, #[.int .i64 no, .int .i64 wk, .int .u64 (xn : Int), .slice xda xdl xdc].toList[j]? = some y → (w6.alloc (.cells #[.int .i64 no, .int .i64 wk, .int .u64 (xn : Int), .slice xda xdl xdc] 70)).cell? ((⟨w6.heap.size, 0, none⟩ : Addr).add j) = some y := fun j y hy => by rw [add_off, cell_of_row _ _ _ _ _ _ r7]; simpa using hy
         have B1 := hide (Below.after hb5 hba)
         have B2 := hide (rV5.keep hba)
         have hbs : w.heap.size ≤ (w6.alloc (.cells #[.int .i64 no, .int .i64 wk, .int .u64 (xn : Int), .slice xda xdl xdc] 70)).heap.size := B1.out.size
         clear hb5 hO5 rV5 hS5 hba r7
         refine wpAnyH_done (by kernel_rfl) ?_ _
         have hone3 : ∀ u ∈ (#[.int .i64 no, .int .i64 wk, .int .u64 (xn : Int), .slice xda xdl xdc] : Array Value).toList, Value.oneCell' u = true := by simp [Value.oneCell']
         go_wp2_with (first | (refine wpList_load_want rfl 70 _ rfl gf rfl 70 _ (0, 0) _ rG5 Tryz.underlying70 rfl infoFi ?_) | (at_builtin; refine wpList_append_fi rfl (.tmp 85) (.tmp 87) rfl w.heap.size _ k _ rfl hO7 (by omega) #[.int .i64 no, .int .i64 wk, .int .u64 (xn : Int), .slice xda xdl xdc].toList rfl w6.heap.size rfl hnews hone3 hbs ?_) | fail)
         intro v' w7 h1 h2 h3
         have hB7 : Below w.heap.size w w7 := B1.out.grown h2 hbs (fun q hq => (A8.out q hq).1)
         have rV7 : Bx w7 w.heap.size _ := B2.out.same (h2.block _ B2.out.lt (fun e => A9.out e.symm))
         have hne7 : v'.ownBlock ≠ some w.heap.size := fun e => by
           rcases h3 with q | ⟨q, q1, q2⟩
           · exact A9.out (q.symm.trans e)
           · rw [q1] at e
             injection e with e
             have := B2.out.lt
             omega
         replace h1 : w7.ownsRow w.heap.size 70 4 v' (k + 1) (frk ts xs (k + 1)) := by rw [A0.out]; exact h1
         obtain ⟨vo, vc, rfl⟩ := own_slice h1
         have C1 := hide h1
         have C2 := hide hB7
         have C3 := hide hne7
         have C4 := hide rV7
         clear h1 h2 h3 hB7 hne7 rV7 hO7 hnews B1 B2 rG5 cK
         go_wp2_with (fail)
         refine ⟨⟨k + 1, by omega, by go_num, C1.out, C2.out, C4.out, C3.out⟩, ?_⟩
         simp [intOf]; omega
     · have hd : decide ((k : Int) < (ts.length : Int)) = false := by simp; omega
       obtain rfl : k = ts.length := by omega
       have hF := fds_of (by omega) hO (fun i hi => ⟨(hBh.out i hi).1.keep hb, (hBh.out i hi).2⟩)
       have cX := cE.out _ _ hF
       have A1 := hide hb
       clear h hpr hfl hB hO rV hb hF cE hBh hsf
       go_wp2_with (fail)
       refine cX.mono ?_
       rintro e_ w1 ⟨u, rfl, hU, hb1⟩
       have hU2 := own_down hU A1.out.size
       have hb2 := Below.after A1.out hb1
       obtain ⟨ua, uc, rfl⟩ := slen_own hU2
       clear cX hU hb1
       go_wp2_with (fail)
       go_ret
       exact ⟨_, rfl, hU2, hb2⟩
end Go.Proofs.YtlbndkfllegacaaGreatDoor
namespace Go.Proofs.YtlbndkfllegacaaGreatDoor
set_option maxRecDepth 100000
open Go Go.RowKit Go.Sort
attribute [local go_sem] setCell_drewN alloc_drewN
theorem results_slot_cell {P : Program} {fn : Func} {p q : Tmp} {ty : TypeId} (h : fn.results = #[.tmp q, .cell p ty]) (tmps : Array Value) (w : World) (g : Nat) (t : TypeId) (cs : Array Value) (fr : Nat × Nat) (d : TypeDesc)
   (hp : tmps.getD p undef = .pointer (some ⟨g, 0, none⟩)) (hg : w.heap[g]? = some (.cells cs t fr))
   (hu : P.underlying ty = some d) (hd : (match d with | .struct _ | .array _ _ => true | _ => false) = true) (hi : (P.info? ty).map (·.size) = some cs.size) :
   (results fn tmps).run P w = .ok (.tuple #[tmps.getD q undef, .agg cs]) w := by
 have hp' : tmps[p]?.getD undef = .pointer (some ⟨g, 0, none⟩) := by simpa using hp
 simp [results, h, hp', asAddr, run_loadVar_row w g t ty cs fr d hg hu hd hi]
set_option maxRecDepth 100000 in
set_option maxHeartbeats 4000000 in
theorem r_EncodeF {g : Nat} {ts : List Slt} (hfl : ∀ i, i < ts.length → Fla (gs ts i)) (hl16 : ts.length ≤ 16) (da : Option Addr) (dc : Nat) (pv : Value) (xs : List VR) (ds : List (List B)) (hlx : xs.length = ts.length) (hck : chF ts xs 1 = none) (w : World) (hC : Rdc w g ts) (hP : Prt w pv xs)
   (hB : ∀ i, i < ts.length → BysB w (.slice (gx xs i).da (gx xs i).dl (gx xs i).dc) (gd1 ds i) ∧ Fok (fdF (gs ts i) (gx xs i) (gd1 ds i))) :
   Calls Tryz.prog 47 #[.pointer (some ⟨g, 0, none⟩), .agg (vrw 0 (.slice da 0 dc) pv)] w fun e w' => ∃ u, e = .returned (.tuple #[u, .agg #[.int .i64 0, .int .i64 0, .int .i64 0]]) ∧ Own w' w.heap.size u (eout (fdk ts xs ds ts.length)) ∧ Below w.heap.size w w' := by
 have cC := hide (fun V (hV : Below w.heap.size w V) => r_CheckF hfl da dc pv xs hlx V (by obtain ⟨u, h1, h2⟩ := hC; exact ⟨u, keep hV h1, h2.keep hV⟩) (hP.keep hV))
 rw [hck] at cC
 obtain ⟨u, hg, hS⟩ := hC
 obtain ⟨so, sc, rfl⟩ := hS.form
 have cE := hide (fun V (hV : Below w.heap.size w V) => r_encodeF hfl 0 da 0 dc pv xs ds V (hS.keep hV) hl16 (hP.keep hV) hlx (fun i hi => ⟨(hB i hi).1.keep hV, (hB i hi).2⟩))
 obtain ⟨pa, pc, hpv⟩ : ∃ pa pc, pv = .slice pa xs.length pc := by obtain ⟨a, c, e, _⟩ := hP; exact ⟨a, c, e⟩
 subst hpv
 unfold vrw at cC cE ⊢
 have z0 : ((0 : Nat) : Int) = 0 := rfl
 rw [z0] at cC cE ⊢
 obtain ⟨L, hL⟩ : ∃ L, eout (fdk ts xs ds ts.length) = L := ⟨_, rfl⟩
 rw [hL] at cE
 replace hL := hide hL
 clear z0 hS hP hB
 generalize hpl : xs.length = pl at *
 generalize hsn : ts.length = sn at *
 clear hlx hpl
 replace hsn := hide hsn
 have hlg := lt_of_row hg
 have hb : Below w.heap.size w ((w.alloc (.cells #[.int .u64 0, .slice da 0 dc, .slice pa pl pc] 76)).alloc (.cells #[.int .i64 0, .int .i64 0, .int .i64 0] 35)) := ((Below.refl _ _).alloc (Nat.le_refl _) _).alloc (by simp) _
 have rV := hp2_0 w (.cells #[.int .u64 0, .slice da 0 dc, .slice pa pl pc] 76) (.cells #[.int .i64 0, .int .i64 0, .int .i64 0] 35)
 have rF := hp2_1 w (.cells #[.int .u64 0, .slice da 0 dc, .slice pa pl pc] 76) (.cells #[.int .i64 0, .int .i64 0, .int .i64 0] 35)
 have rg := keep hb hg
 have hbv := bVal #[.int .u64 0, .slice da 0 dc, .slice pa pl pc]
 have cC1 := cC.out _ hb
 clear hg cC
 go_enter Tryz.func47, Tryz.ntmps47
 go_wp2_with (first | (refine wpList_load_want rfl 76 _ rfl w.heap.size rfl 76 _ (0, 0) _ rV Tryz.underlying76 rfl infoV ?_) | fail)
 refine cC1.mono ?_
 rintro e_ w1 ⟨rfl, hb1⟩
 clear cC1
 replace rV := keep hb1 rV
 replace rF := keep hb1 rF
 replace rg := keep hb1 rg
 replace hb := Below.after hb hb1
 have hl1 := lt_of_row rF
 have hba : Below w1.heap.size w1 (w1.alloc (.cells #[.int .i64 0, .int .i64 0, .int .i64 0] 35)) := (Below.refl _ _).alloc (Nat.le_refl _) _
 have r2 := hp1_0 w1 (.cells #[.int .i64 0, .int .i64 0, .int .i64 0] 35)
 have hbb := below_setRow (g := w1.heap.size) hba (Nat.le_refl _) #[.int .i64 0, .int .i64 0, .int .i64 0]
 have r3 := setRow_heap _ w1.heap.size _ #[.int .i64 0, .int .i64 0, .int .i64 0] _ _ r2
 replace rV := keep hbb rV
 replace rF := keep hbb rF
 replace rg := keep hbb rg
 replace hb := Below.after hb hbb
 have hone : (#[.int .i64 0, .int .i64 0, .int .i64 0] : Array Value).all (·.oneCell') = true := by simp [Value.oneCell']
 have c3 : ((w1.alloc (.cells #[.int .i64 0, .int .i64 0, .int .i64 0] 35)).setRow w1.heap.size #[.int .i64 0, .int .i64 0, .int .i64 0]).cell? ⟨w1.heap.size, 2, none⟩ = some (.int .i64 0) := by rw [cell_of_row _ _ _ _ _ _ r3]; rfl
 unfold flr
 clear hb1 hba hbb
 go_wp2_with (first | (refine wpList_store_row rfl 35 _ _ rfl w1.heap.size #[.int .i64 0, .int .i64 0, .int .i64 0] rfl rfl 35 _ r2 infoFt rfl hone ?_) | fail)
 generalize (w1.alloc (.cells #[.int .i64 0, .int .i64 0, .int .i64 0] 35)).setRow w1.heap.size #[.int .i64 0, .int .i64 0, .int .i64 0] = w3 at *
 generalize w1.heap.size = gf at *
 clear c3 r2
 have hS0 : (fun W : World => Bx W w.heap.size #[.int .u64 0, .slice da 0 dc, .slice pa pl pc] ∧ Bx W g #[.slice so sn sc] ∧ Bx W gf #[.int .i64 0, .int .i64 0, .int .i64 0]) w3 := ⟨⟨_, rV⟩, ⟨_, rg⟩, ⟨_, r3⟩⟩
 refine wp_region_held (S := fun W : World => Bx W w.heap.size #[.int .u64 0, .slice da 0 dc, .slice pa pl pc] ∧ Bx W g #[.slice so sn sc] ∧ Bx W gf #[.int .i64 0, .int .i64 0, .int .i64 0]) (by kernel_rfl) ?_
 change wpAnyH _ _ _ _ _ _ _ _ (World.drew _)
 have hbd : Below w3.heap.size w3 w3.drew := below_drN (Below.refl _ _) 1
 replace hS0 : (fun W : World => Bx W w.heap.size #[.int .u64 0, .slice da 0 dc, .slice pa pl pc] ∧ Bx W g #[.slice so sn sc] ∧ Bx W gf #[.int .i64 0, .int .i64 0, .int .i64 0]) w3.drew := hS0
 replace hb := Below.after hb hbd
 replace rF := keep hbd rF
 have cX := cE.out w3.drew hb
 clear cE rV rg r3 hbd
 generalize w3.drew = w4 at *
 have hl4 := lt_of_row rF
 refine wpAnyH_take (i := 0) (v := ?v1) rfl (by kernel_rfl) (by kernel_rfl) (by kernel_rfl) (fun _ _ _ h => h) (Or.inl ⟨by rfl, ?y1⟩) hS0 ?r1
 case y1 =>
   intro w_ hS_
   go_simp
   try with_reducible rfl
 simp only [Act.put, List.getElem_toArray, List.getElem_cons_zero, List.setIfInBounds_toArray, List.set_cons_succ, List.set_cons_zero]
 refine wpAnyH_take (i := 1) (v := ?v2) rfl (by kernel_rfl) (by kernel_rfl) (by kernel_rfl) (fun _ _ _ h => h) (Or.inl ⟨by rfl, ?y2⟩) hS0 ?r2
 case y2 =>
   intro w_ hS_
   go_simp
   try with_reducible rfl
 simp only [Act.put, List.getElem_toArray, List.getElem_cons_succ, List.getElem_cons_zero, List.setIfInBounds_toArray, List.set_cons_succ, List.set_cons_zero]
 refine wpAnyH_take (i := 2) (v := ?v3) rfl (by kernel_rfl) (by kernel_rfl) (by kernel_rfl) (fun _ _ _ h => h) (Or.inl ⟨by rfl, ?y3⟩) hS0 ?r3
 case y3 =>
   intro w_ hS_
   go_simp
   try with_reducible rfl
 simp only [Act.put, List.getElem_toArray, List.getElem_cons_succ, List.getElem_cons_zero, List.setIfInBounds_toArray, List.set_cons_succ, List.set_cons_zero]
 refine wpAnyH_take (i := 3) (v := .slice so sn sc) rfl (by kernel_rfl) (by kernel_rfl) (by kernel_rfl) (fun _ _ _ h => h) (Or.inl ⟨by rfl, ?y4⟩) hS0 ?r4
 case y4 =>
   intro w_ hS_
   obtain ⟨_, h_⟩ := hS_.2.1
   have c_ := cell_of_row _ _ 0 _ _ _ h_
   go_simp
   try with_reducible rfl
 simp only [Act.put, List.getElem_toArray, List.getElem_cons_succ, List.getElem_cons_zero, List.setIfInBounds_toArray, List.set_cons_succ, List.set_cons_zero]
 refine wpAnyH_take (i := 4) (v := .agg #[.int .u64 0, .slice da 0 dc, .slice pa pl pc]) rfl (by kernel_rfl) (by kernel_rfl) (by kernel_rfl) (fun _ _ _ h => h) (yieldsIf_load_mid (by rfl) 76 _ rfl w.heap.size 0 rfl [.int .u64 0, .slice da 0 dc, .slice pa pl pc] _ (fun _ h => range_row h.1) Tryz.underlying76 rfl infoV) hS0 ?_
 simp only [Act.put, List.getElem_toArray, List.getElem_cons_succ, List.getElem_cons_zero, List.setIfInBounds_toArray, List.set_cons_succ, List.set_cons_zero]
 refine wpAnyH_take (i := 6) (v := .agg #[.int .i64 0, .int .i64 0, .int .i64 0]) rfl (by kernel_rfl) (by kernel_rfl) (by kernel_rfl) (fun _ _ _ h => h) (yieldsIf_load_mid (by rfl) 35 _ rfl gf 0 rfl [.int .i64 0, .int .i64 0, .int .i64 0] _ (fun _ h => range_row h.2.2) Tryz.underlying35 rfl infoFt) hS0 ?_
 simp only [Act.put, List.getElem_toArray, List.getElem_cons_succ, List.getElem_cons_zero, List.setIfInBounds_toArray, List.set_cons_succ, List.set_cons_zero]
 refine wpAnyH_one (k := 5) (fuel := 2) (by kernel_rfl) rfl (by kernel_rfl) (fun K_ hK => ?_)
 refine wp_call_ex (R := fun u w' => Own w' w4.heap.size u L ∧ Below w4.heap.size w4 w') (by kernel_rfl) cX (fun u w5 hX_ => ?_)
 obtain ⟨hU, hbx⟩ := hX_
 have hU2 := own_down hU hb.size
 replace hS0 : (fun W : World => Bx W w.heap.size #[.int .u64 0, .slice da 0 dc, .slice pa pl pc] ∧ Bx W g #[.slice so sn sc] ∧ Bx W gf #[.int .i64 0, .int .i64 0, .int .i64 0]) w5 := ⟨hS0.1.keep hbx, hS0.2.1.keep hbx, hS0.2.2.keep hbx⟩
 replace rF := keep hbx rF
 replace hb := Below.after hb hbx
 refine hK _ _ hS0 ?_
 simp only [Act.put, List.getElem_toArray, List.getElem_cons_succ, List.getElem_cons_zero, List.setIfInBounds_toArray, List.set_cons_succ, List.set_cons_zero]
 clear hK cX
 obtain ⟨ua, uc, rfl⟩ := slen_own hU2
 refine wpAnyH_one (k := 7) (fuel := 1) (by kernel_rfl) rfl (by kernel_rfl) (fun K_ hK => ?_)
 refine wp_pure_op (.slice ua L.length uc) (by kernel_rfl) ?_
 refine hK _ _ hS0 ?_
 simp only [Act.put, List.getElem_toArray, List.getElem_cons_succ, List.getElem_cons_zero, List.setIfInBounds_toArray, List.set_cons_succ, List.set_cons_zero]
 clear hK
 refine wpAnyH_one (k := 8) (fuel := 0) (by kernel_rfl) rfl (by kernel_rfl) (fun K_ hK => ?_)
 refine wp_store_row 35 _ _ rfl (w.heap.size + 1) #[.int .i64 0, .int .i64 0, .int .i64 0] rfl rfl 35 _ rF infoFt rfl hone ?_
 have r6 := setRow_heap w5 (w.heap.size + 1) _ #[.int .i64 0, .int .i64 0, .int .i64 0] _ _ rF
 have hb6 := below_setRow (g := w.heap.size + 1) hb (by omega) #[.int .i64 0, .int .i64 0, .int .i64 0]
 have hU6 : Own (w5.setRow (w.heap.size + 1) #[.int .i64 0, .int .i64 0, .int .i64 0]) w.heap.size (.slice ua L.length uc) L := own_but hU2 fun q hq => setRow_other w5 (w.heap.size + 1) q _ (by have := own_low hU q hq; omega)
 refine hK _ _ ⟨hS0.1.row (by omega), hS0.2.1.row (by omega), hS0.2.2.row (by omega)⟩ ?_
 simp only [Act.put, List.getElem_toArray, List.getElem_cons_succ, List.getElem_cons_zero]
 have B1 := hide hU6
 have B2 := hide hb6
 have B3 := hide r6
 clear hK hS0 hb rF hU hU2 hU6 hb6 r6
 refine wpAnyH_done (by kernel_rfl) ?_ _
 go_wp2_with (fail)
 exact bodyPost_ret (v := .tuple #[.slice ua L.length uc, .agg #[.int .i64 0, .int .i64 0, .int .i64 0]]) (results_slot_cell Tryz.results47 _ _ (w.heap.size + 1) _ _ _ _ rfl B3.out Tryz.underlying35 rfl infoFt) rfl ⟨_, rfl, by rw [hL.out]; exact B1.out, B2.out⟩
end Go.Proofs.YtlbndkfllegacaaGreatDoor
namespace Go.Proofs.YtlbndkfllegacaaGreatDoor
set_option maxRecDepth 100000
open Go Go.RowKit Go.Sort
attribute [local go_sem] setCell_drewN alloc_drewN
section
variable {P : Program} {ops : Array Oper} {Q : Exit → Act → World → Prop} {md : Region.Mode} {S : World → Prop}
theorem wpAnyH_three {j k l : Nat} {oj ok ol : Oper} {fuel : Nat} {listed : Array Bool} {a : Act} {w : World} (hr : Region.ready md ops listed = [j, k, l]) (hj : ops[j]? = some oj) (hk : ops[k]? = some ok) (hl : ops[l]? = some ol) (wj : Region.wanted oj (yielded ops a.tmps) = true) (wk : Region.wanted ok (yielded ops a.tmps) = true) (wl : Region.wanted ol (yielded ops a.tmps) = true)
   (h1 : ∀ K : Act → World → Prop, (∀ a' w', S w' → wpAnyH P md ops Q S fuel (listed.setIfInBounds j true) a' w' → K a' w') → oj.wp P a w K Q)
   (h2 : ∀ K : Act → World → Prop, (∀ a' w', S w' → wpAnyH P md ops Q S fuel (listed.setIfInBounds k true) a' w' → K a' w') → ok.wp P a w K Q)
   (h3 : ∀ K : Act → World → Prop, (∀ a' w', S w' → wpAnyH P md ops Q S fuel (listed.setIfInBounds l true) a' w' → K a' w') → ol.wp P a w K Q) : wpAnyH P md ops Q S (fuel + 1) listed a w := by
 refine wpAnyH_all hr (by simp) (fun i hi' => ?_)
 obtain rfl | rfl | rfl : i = j ∨ i = k ∨ i = l := by simpa using hi'
 · unfold wpOp
   simp only [hj, wj, if_true]
   exact .inl (h1 _ (fun a' w' hS hn => ⟨hS, hn⟩))
 · unfold wpOp
   simp only [hk, wk, if_true]
   exact .inl (h2 _ (fun a' w' hS hn => ⟨hS, hn⟩))
 · unfold wpOp
   simp only [hl, wl, if_true]
   exact .inl (h3 _ (fun a' w' hS hn => ⟨hS, hn⟩))
end
theorem rdc_keepH {W V : World} {g : Nat} {ts : List Slt} (h : Rdc W g ts) (hb : Below W.heap.size W V) : Rdc V g ts := by
 obtain ⟨u, h1, h2⟩ := h
 exact ⟨u, keep hb h1, h2.keep hb⟩
def hfd (pub : List B) (prev m : Nat) : List Fd := fdk hdr (hxs 0 prev m) [pub, [], []] 3
end Go.Proofs.YtlbndkfllegacaaGreatDoor
namespace Go.Proofs.YtlbndkfllegacaaGreatDoor
set_option maxRecDepth 100000
open Go Go.RowKit Go.Sort
attribute [local go_sem] setCell_drewN alloc_drewN
theorem esl1_big : 0 ≤ slL (esl 1) 10000 := by simp [esl, slL]
theorem least_top1 : Gives 72 #[.int .i64 1, .int .i64 1048580] (.int .i64 2097152) := by
 have h := r_least 1 (by decide) 1048580 (by decide)
 rw [show bkd (dg 1) 1048580 = 2097152 from bkd_v1] at h
 exact h
set_option maxRecDepth 100000 in
set_option maxHeartbeats 16000000 in
theorem r_shapeE1 (w : World) : Calls Tryz.prog 46 #[.int .i64 1] w fun e w' => ∃ x, e = .returned x ∧ (∃ q, x = .pointer (some ⟨q, 0, none⟩) ∧ w.heap.size ≤ q ∧ Rdc w' q (esl 1)) ∧ Below w.heap.size w w' := by
 have cL := hide least_top1
 go_enter Tryz.func46, Tryz.ntmps46
 go_wp2_with (fail)
 refine (cL.out w).mono ?_
 rintro e_ w1 ⟨rfl, hb1⟩
 clear cL
 have cK := r_Compile (W := w1.alloc (.cells #[.int .i64 1, .int .i64 1, .int .u64 1, .int .u64 1, .slice none 0 0, .int .i64 2, .int .i64 5, .int .u64 16, .int .u64 16, .slice none 0 0, .int .i64 3, .int .i64 5, .int .u64 60, .int .u64 60, .slice none 0 0, .int .i64 4, .int .i64 5, .int .u64 80, .int .u64 2097168, .slice none 0 0] 111)) (esl1_slo ⟨_, hp1_0 w1 _⟩) esl1_big (w1.alloc (.cells #[.int .i64 1, .int .i64 1, .int .u64 1, .int .u64 1, .slice none 0 0, .int .i64 2, .int .i64 5, .int .u64 16, .int .u64 16, .slice none 0 0, .int .i64 3, .int .i64 5, .int .u64 60, .int .u64 60, .slice none 0 0, .int .i64 4, .int .i64 5, .int .u64 80, .int .u64 2097168, .slice none 0 0] 111)) (Below.refl _ _)
 have hba : Below w1.heap.size w1 (w1.alloc (.cells #[.int .i64 1, .int .i64 1, .int .u64 1, .int .u64 1, .slice none 0 0, .int .i64 2, .int .i64 5, .int .u64 16, .int .u64 16, .slice none 0 0, .int .i64 3, .int .i64 5, .int .u64 60, .int .u64 60, .slice none 0 0, .int .i64 4, .int .i64 5, .int .u64 80, .int .u64 2097168, .slice none 0 0] 111)) := (Below.refl _ _).alloc (Nat.le_refl _) _
 have A1 := hide (Below.after hb1 hba)
 clear hba hb1
 replace cK := hide cK
 go_wp2_with (fail)
 refine cK.out.mono ?_
 rintro e_ w2 ⟨hb, hq⟩
 rcases hq with ⟨_, q, u, rfl, hq1, hq2, hq3⟩ | ⟨hq, _⟩
 · have A2 := hide (show Rdc w2 q (esl 1) from ⟨u, hq2, hq3.slo⟩)
   have A3 := hide (Below.after A1.out hb)
   have hs := A1.out.size
   clear cK hq2 hq3 hb
   go_wp2_with (fail)
   go_ret
   exact ⟨_, rfl, ⟨q, rfl, Nat.le_trans hs hq1, A2.out⟩, A3.out⟩
 · exact absurd esl1_vld hq
set_option maxRecDepth 100000 in
set_option maxHeartbeats 16000000 in
theorem r_holds1 (bn : Nat) (hbn : bn ≤ 1152921504606846000) : Gives 45 #[.int .i64 1, .int .i64 (bn : Int)] (.bool (decide (80 ≤ bn ∧ bn ≤ mo 1 ∧ bkd (dg 1) (bn - 16) = bn - 16))) := by
 intro w
 have cL := hide least_top1
 have hmo : mo 1 = 2097168 := rfl
 go_enter Tryz.func45, Tryz.ntmps45
 by_cases h1 : 80 ≤ bn
 · obtain ⟨k, rfl⟩ : ∃ k, bn = k + 16 := ⟨bn - 16, by omega⟩
   have q : (((k + 16 : Nat) : Int) - 16) = (k : Int) := by omega
   have d1 : decide ((64 : Int) ≤ (k : Int)) = true := decide_eq_true (by omega)
   have cM := hide (r_least 1 (by decide) k (by omega))
   go_wp2_with (fail)
   refine (cL.out w).mono ?_
   rintro e_ w1 ⟨rfl, hb1⟩
   by_cases h2 : k ≤ 2097152
   · have d2 : decide ((k : Int) ≤ 2097152) = true := decide_eq_true (by omega)
     go_wp2_with (fail)
     refine (cM.out w1).mono ?_
     rintro e_ w2 ⟨rfl, hb2⟩
     replace hb1 := Below.after hb1 hb2
     clear hb2 cM cL
     by_cases h3 : bkd (dg 1) k = k
     · rw [h3]
       have hpost : decide (80 ≤ k + 16 ∧ k + 16 ≤ mo 1 ∧ bkd (dg 1) (k + 16 - 16) = k + 16 - 16) = true := decide_eq_true ⟨h1, by omega, by rw [Nat.add_sub_cancel]; exact h3⟩
       replace hpost := hide hpost
       clear h3
       go_wp2_with (fail)
       go_ret
       rw [hpost.out]
       exact ⟨rfl, hb1⟩
     · have hpost : decide (80 ≤ k + 16 ∧ k + 16 ≤ mo 1 ∧ bkd (dg 1) (k + 16 - 16) = k + 16 - 16) = false := decide_eq_false (fun h => h3 (by have := h.2.2; rw [Nat.add_sub_cancel] at this; exact this))
       have d3 : ((bkd (dg 1) k : Int) == (k : Int)) = false := by
         have : ((bkd (dg 1) k : Nat) : Int) ≠ (k : Int) := by omega
         simpa using this
       replace hpost := hide hpost
       clear h3
       obtain ⟨b, hb⟩ : ∃ b, bkd (dg 1) k = b := ⟨_, rfl⟩
       rw [hb] at d3 ⊢
       replace hb := hide hb
       go_wp2_with (fail)
       go_ret
       rw [hpost.out]
       exact ⟨rfl, hb1⟩
   · have d2 : decide ((k : Int) ≤ 2097152) = false := decide_eq_false (by omega)
     have hpost : decide (80 ≤ k + 16 ∧ k + 16 ≤ mo 1 ∧ bkd (dg 1) (k + 16 - 16) = k + 16 - 16) = false := decide_eq_false (by omega)
     replace hpost := hide hpost
     clear cM
     go_wp2_with (fail)
     go_ret
     rw [hpost.out]
     exact ⟨rfl, hb1⟩
 · have d1 : decide ((64 : Int) ≤ (bn : Int) - 16) = false := decide_eq_false (by omega)
   have hpost : decide (80 ≤ bn ∧ bn ≤ mo 1 ∧ bkd (dg 1) (bn - 16) = bn - 16) = false := decide_eq_false (by omega)
   replace hpost := hide hpost
   go_wp2_with (fail)
   go_ret
   rw [hpost.out]
   exact ⟨rfl, Below.refl _ _⟩
theorem esl2_big : 0 ≤ slL (esl 2) 10000 := by simp [esl, slL]
theorem least_top2 : Gives 72 #[.int .i64 2, .int .i64 1048580] (.int .i64 1179648) := by
 have h := r_least 2 (by decide) 1048580 (by decide)
 rw [show bkd (dg 2) 1048580 = 1179648 from bkd_v2] at h
 exact h
set_option maxRecDepth 100000 in
set_option maxHeartbeats 16000000 in
theorem r_shapeE2 (w : World) : Calls Tryz.prog 46 #[.int .i64 2] w fun e w' => ∃ x, e = .returned x ∧ (∃ q, x = .pointer (some ⟨q, 0, none⟩) ∧ w.heap.size ≤ q ∧ Rdc w' q (esl 2)) ∧ Below w.heap.size w w' := by
 have cL := hide least_top2
 go_enter Tryz.func46, Tryz.ntmps46
 go_wp2_with (fail)
 refine (cL.out w).mono ?_
 rintro e_ w1 ⟨rfl, hb1⟩
 clear cL
 have cK := r_Compile (W := w1.alloc (.cells #[.int .i64 1, .int .i64 1, .int .u64 2, .int .u64 2, .slice none 0 0, .int .i64 2, .int .i64 5, .int .u64 16, .int .u64 16, .slice none 0 0, .int .i64 3, .int .i64 5, .int .u64 60, .int .u64 60, .slice none 0 0, .int .i64 4, .int .i64 5, .int .u64 80, .int .u64 1179664, .slice none 0 0] 111)) (esl2_slo ⟨_, hp1_0 w1 _⟩) esl2_big (w1.alloc (.cells #[.int .i64 1, .int .i64 1, .int .u64 2, .int .u64 2, .slice none 0 0, .int .i64 2, .int .i64 5, .int .u64 16, .int .u64 16, .slice none 0 0, .int .i64 3, .int .i64 5, .int .u64 60, .int .u64 60, .slice none 0 0, .int .i64 4, .int .i64 5, .int .u64 80, .int .u64 1179664, .slice none 0 0] 111)) (Below.refl _ _)
 have hba : Below w1.heap.size w1 (w1.alloc (.cells #[.int .i64 1, .int .i64 1, .int .u64 2, .int .u64 2, .slice none 0 0, .int .i64 2, .int .i64 5, .int .u64 16, .int .u64 16, .slice none 0 0, .int .i64 3, .int .i64 5, .int .u64 60, .int .u64 60, .slice none 0 0, .int .i64 4, .int .i64 5, .int .u64 80, .int .u64 1179664, .slice none 0 0] 111)) := (Below.refl _ _).alloc (Nat.le_refl _) _
 have A1 := hide (Below.after hb1 hba)
 clear hba hb1
 replace cK := hide cK
 go_wp2_with (fail)
 refine cK.out.mono ?_
 rintro e_ w2 ⟨hb, hq⟩
 rcases hq with ⟨_, q, u, rfl, hq1, hq2, hq3⟩ | ⟨hq, _⟩
 · have A2 := hide (show Rdc w2 q (esl 2) from ⟨u, hq2, hq3.slo⟩)
   have A3 := hide (Below.after A1.out hb)
   have hs := A1.out.size
   clear cK hq2 hq3 hb
   go_wp2_with (fail)
   go_ret
   exact ⟨_, rfl, ⟨q, rfl, Nat.le_trans hs hq1, A2.out⟩, A3.out⟩
 · exact absurd esl2_vld hq
set_option maxRecDepth 100000 in
set_option maxHeartbeats 16000000 in
theorem r_holds2 (bn : Nat) (hbn : bn ≤ 1152921504606846000) : Gives 45 #[.int .i64 2, .int .i64 (bn : Int)] (.bool (decide (80 ≤ bn ∧ bn ≤ mo 2 ∧ bkd (dg 2) (bn - 16) = bn - 16))) := by
 intro w
 have cL := hide least_top2
 have hmo : mo 2 = 1179664 := rfl
 go_enter Tryz.func45, Tryz.ntmps45
 by_cases h1 : 80 ≤ bn
 · obtain ⟨k, rfl⟩ : ∃ k, bn = k + 16 := ⟨bn - 16, by omega⟩
   have q : (((k + 16 : Nat) : Int) - 16) = (k : Int) := by omega
   have d1 : decide ((64 : Int) ≤ (k : Int)) = true := decide_eq_true (by omega)
   have cM := hide (r_least 2 (by decide) k (by omega))
   go_wp2_with (fail)
   refine (cL.out w).mono ?_
   rintro e_ w1 ⟨rfl, hb1⟩
   by_cases h2 : k ≤ 1179648
   · have d2 : decide ((k : Int) ≤ 1179648) = true := decide_eq_true (by omega)
     go_wp2_with (fail)
     refine (cM.out w1).mono ?_
     rintro e_ w2 ⟨rfl, hb2⟩
     replace hb1 := Below.after hb1 hb2
     clear hb2 cM cL
     by_cases h3 : bkd (dg 2) k = k
     · rw [h3]
       have hpost : decide (80 ≤ k + 16 ∧ k + 16 ≤ mo 2 ∧ bkd (dg 2) (k + 16 - 16) = k + 16 - 16) = true := decide_eq_true ⟨h1, by omega, by rw [Nat.add_sub_cancel]; exact h3⟩
       replace hpost := hide hpost
       clear h3
       go_wp2_with (fail)
       go_ret
       rw [hpost.out]
       exact ⟨rfl, hb1⟩
     · have hpost : decide (80 ≤ k + 16 ∧ k + 16 ≤ mo 2 ∧ bkd (dg 2) (k + 16 - 16) = k + 16 - 16) = false := decide_eq_false (fun h => h3 (by have := h.2.2; rw [Nat.add_sub_cancel] at this; exact this))
       have d3 : ((bkd (dg 2) k : Int) == (k : Int)) = false := by
         have : ((bkd (dg 2) k : Nat) : Int) ≠ (k : Int) := by omega
         simpa using this
       replace hpost := hide hpost
       clear h3
       obtain ⟨b, hb⟩ : ∃ b, bkd (dg 2) k = b := ⟨_, rfl⟩
       rw [hb] at d3 ⊢
       replace hb := hide hb
       go_wp2_with (fail)
       go_ret
       rw [hpost.out]
       exact ⟨rfl, hb1⟩
   · have d2 : decide ((k : Int) ≤ 1179648) = false := decide_eq_false (by omega)
     have hpost : decide (80 ≤ k + 16 ∧ k + 16 ≤ mo 2 ∧ bkd (dg 2) (k + 16 - 16) = k + 16 - 16) = false := decide_eq_false (by omega)
     replace hpost := hide hpost
     clear cM
     go_wp2_with (fail)
     go_ret
     rw [hpost.out]
     exact ⟨rfl, hb1⟩
 · have d1 : decide ((64 : Int) ≤ (bn : Int) - 16) = false := decide_eq_false (by omega)
   have hpost : decide (80 ≤ bn ∧ bn ≤ mo 2 ∧ bkd (dg 2) (bn - 16) = bn - 16) = false := decide_eq_false (by omega)
   replace hpost := hide hpost
   go_wp2_with (fail)
   go_ret
   rw [hpost.out]
   exact ⟨rfl, Below.refl _ _⟩
end Go.Proofs.YtlbndkfllegacaaGreatDoor

