import Derived.Test.YtgcpebhjehlacaaDoorHJrc
namespace Go.Proofs.YtgcpebhjehlacaaDoor
set_option maxRecDepth 100000
open Go Go.RowKit Go.Sort
attribute [local go_sem] setCell_drewN alloc_drewN
structure Fdk (W : World) (P : Nat → Prop) (f : Fd) (da : Option Addr) (dc : Nat) (at_ : Int) : Prop where
 hB : BysB W (.slice da f.dat.length dc) f.dat
 hc : f.dat.length ≤ dc
 hi : InS W P da
 ok : Fok f
 no0 : 0 ≤ f.no
 no1 : f.no ≤ 536870911
 kn : known f.ty
 fb : (fby f).length ≤ 4194304
 a0 : 0 ≤ at_
 a1 : at_ + ((fby f).length : Int) ≤ 1152921504606846976
theorem Fdk.keep {W V : World} {P : Nat → Prop} {f : Fd} {da : Option Addr} {dc : Nat} {at_ : Int} (h : Fdk W P f da dc at_) (hb : Below W.heap.size W V) : Fdk V P f da dc at_ :=
 ⟨h.hB.keep hb, h.hc, fun a e => ⟨(h.hi a e).1, Nat.lt_of_lt_of_le (h.hi a e).2 hb.size⟩, h.ok, h.no0, h.no1, h.kn, h.fb, h.a0, h.a1⟩
def RdR (w : World) (P : Nat → Prop) (F : Option Flt3) (X : VT) (e : Ending) (w' : World) : Prop := Gup w.heap.size F e w' (fun v => ∃ x, v = .agg (vrv x) ∧ VtM w' (fun b => P b ∨ w.heap.size ≤ b) x X) ∧ Below w.heap.size w w'
theorem fby_dat {f : Fd} (h : f.ty = 2) : f.dat.length ≤ (fby f).length := by
 rw [fby, List.length_append, fvl, if_neg (by omega), if_neg (by omega), if_neg (by omega), itm_len]
 omega
theorem plain_tree {W : World} {P : Nat → Prop} {f : Fd} {da : Option Addr} {dc : Nat} {at_ : Int} (h : Fdk W P f da dc at_) {V : World} (hb : Below W.heap.size W V) {Q : Nat → Prop} (hQ : ∀ b, P b → Q b) : VtM V Q ⟨f.num, da, f.dat.length, dc, none, 0, 0⟩ (.mk f.num f.dat []) :=
 .mk ⟨f.num, da, f.dat.length, dc, none, 0, 0⟩ f.dat [] [] h.ok.1 rfl h.ok.2.1 (h.hB.keep hb) h.hc (fun a e => ⟨hQ _ (h.hi a (lv_some e)).1, Nat.lt_of_lt_of_le (h.hi a (lv_some e)).2 hb.size⟩) rfl rfl (Nat.le_refl 0) (by decide) (fun a e => by cases lv_some e) (fun i hi => by simp at hi) (fun i hi => by simp at hi)
theorem VtM.wid {W : World} {S T : Nat → Prop} {x : VR} {X : VT} (h : VtM W S x X) (hk : ∀ b, S b → T b) : VtM W T x X := h.keep ⟨Nat.le_refl _, fun b _ hS => ⟨rfl, hk b hS⟩⟩
theorem VtM.other {W : World} {S T : Nat → Prop} {x : VR} {X : VT} (h : VtM W S x X) (g : Nat) (cs : Array Value) (hk : ∀ b, S b → b ≠ g ∧ T b) : VtM (W.setRow g cs) T x X := h.keep ⟨by simp, fun b _ hS => ⟨setRow_other W g b cs (hk b hS).1, (hk b hS).2⟩⟩
theorem wpList_call_upW {P : Program} {ops : Array Oper} {rest : List Oper} {o : Oper} {a : Act} {w : World} {Q : Exit → Act → World → Prop} {f : FuncId} {args : Array Value} (base : Nat) (F : Option Flt3) (R : Value → World → Prop) (B : World → Prop) (hgd : o.guard = none) (hx : (execOp a.eval o).run P w = .ok (.enter f args) w)
 (c : Calls P f args w fun e w' => Gup base F e w' (fun v => R v w') ∧ B w') (h : F = none → ∀ v w', R v w' → B w' → wpList P ops Q rest (a.put o.dst v) w')
 (hp : ∀ x, F = some x → ∀ g w', base ≤ g → w'.heap[g]? = some (.cells (frw x) 130 (0, 0)) → B w' → Q (.panic [{ v := .iface 97 (.pointer (some ⟨g, 0, none⟩)), recovered := false }]) a w') : wpList P ops Q (o :: rest) a w :=
 wpList_plain hgd fun _ hK => wp_call_upW base F R B hx c (fun hF v w' hR hB => hK _ _ (h hF v w' hR hB)) hp
set_option maxRecDepth 100000 in
set_option maxHeartbeats 8000000 in
theorem a_dataOf (f : Fd) (ao : Option Addr) (cap : Nat) (at_ : Int) (hat : 0 ≤ at_ ∧ at_ ≤ 1152921504606846976) (hf : Fok f) (h0 : 0 ≤ f.no) (h1 : f.no ≤ 536870911) (hk : known f.ty) (hFB : (fby f).length ≤ 4194304) (w : World) : Calls Tryd.prog 76 #[.agg #[.int .i64 f.no, .int .i64 f.ty, .int .u64 (f.num : Int), .slice ao f.dat.length cap], .int .i64 at_] w fun e w' => e = .returned (.int .i64 (at_ + ((fby f).length : Int) - (f.dat.length : Int))) ∧ Below w.heap.size w w' := by
 have cE := a_endOf f ao cap at_ ⟨hat.1, by omega⟩ hf h0 h1 hk
 have hdl := hf.2.1
 clear hf h0 h1 hk
 generalize (fby f).length = FL at *
 generalize f.no = fno at *
 generalize f.ty = fty at *
 generalize f.num = num at *
 generalize f.dat.length = dl at *
 clear f
 have R0 := hp1_0 w (.cells #[.int .i64 fno, .int .i64 fty, .int .u64 (num : Int), .slice ao dl cap] 78)
 have hw : Below w.heap.size w (w.alloc (.cells #[.int .i64 fno, .int .i64 fty, .int .u64 (num : Int), .slice ao dl cap] 78)) := (Below.refl _ _).alloc (Nat.le_refl _) _
 go_enter Tryd.func76, Tryd.ntmps76
 go_upto_region 1 with (fail)
 generalize w.alloc (.cells #[.int .i64 fno, .int .i64 fty, .int .u64 (num : Int), .slice ao dl cap] 78) = w1 at *
 have hbd : Below w1.heap.size w1 w1.drew := below_drN (Below.refl _ _) 1
 replace R0 := keep hbd R0
 replace hw := Below.after hw hbd
 clear hbd
 have q1 : IntKind.wrap .i64 (at_ + (FL : Int) - (dl : Int)) = at_ + (FL : Int) - (dl : Int) := by rw [IntKind.wrap_i64]; omega
 refine wp_region_noPanic ?_
 refine wp_region_held (S := fun W : World => W.heap[w.heap.size]? = some (.cells #[.int .i64 fno, .int .i64 fty, .int .u64 (num : Int), .slice ao dl cap] 78 (0, 0))) (by kernel_rfl) ?_
 change wpAnyH _ _ _ _ _ _ _ _ (World.drew _)
 generalize w1.drew = y1 at *
 refine wpAnyH_take (i := 0) (v := .agg #[.int .i64 fno, .int .i64 fty, .int .u64 (num : Int), .slice ao dl cap]) rfl (by kernel_rfl) (by kernel_rfl) (by kernel_rfl) (fun _ _ _ h => h) (yieldsIf_load_mid (by rfl) 78 _ rfl (w.heap.size) 0 rfl [.int .i64 fno, .int .i64 fty, .int .u64 (num : Int), .slice ao dl cap] _ (fun _ h => range_row ⟨_, h⟩) Tryd.underlying78 rfl infoFi) R0 ?_
 simp only [Act.put, List.getElem_toArray, List.getElem_cons_zero, List.setIfInBounds_toArray, List.set_cons_succ, List.set_cons_zero]
 refine wpAnyH_take (i := 1) (v := .int .i64 at_) rfl (by kernel_rfl) (by kernel_rfl) (by kernel_rfl) (fun _ _ _ h => h) (Or.inl ⟨by rfl, ?y1do⟩) R0 ?r1do
 case y1do =>
  intro w_ hS_
  skip
  go_simp
  try with_reducible rfl
 simp only [Act.put, List.getElem_toArray, List.getElem_cons_succ, List.getElem_cons_zero, List.setIfInBounds_toArray, List.set_cons_succ, List.set_cons_zero]
 refine wpAnyH_take (i := 3) (v := ?vfb) rfl (by kernel_rfl) (by kernel_rfl) (by kernel_rfl) (fun _ _ _ h => h) (Or.inl ⟨by rfl, ?y2do⟩) R0 ?r2do
 case y2do =>
  intro w_ hS_
  skip
  go_simp
  try with_reducible rfl
 simp only [Act.put, List.getElem_toArray, List.getElem_cons_succ, List.getElem_cons_zero, List.setIfInBounds_toArray, List.set_cons_succ, List.set_cons_zero]
 refine wpAnyH_take (i := 4) (v := .slice ao dl cap) rfl (by kernel_rfl) (by kernel_rfl) (by kernel_rfl) (fun _ _ _ h => h) (Or.inl ⟨by rfl, ?y3do⟩) R0 ?r3do
 case y3do =>
  intro w_ hS_
  have c_ := cell_of_row _ _ 3 _ _ _ hS_
  go_simp
  try with_reducible rfl
 simp only [Act.put, List.getElem_toArray, List.getElem_cons_succ, List.getElem_cons_zero, List.setIfInBounds_toArray, List.set_cons_succ, List.set_cons_zero]
 refine wpAnyH_take (i := 5) (v := .int .i64 (dl : Int)) rfl (by kernel_rfl) (by kernel_rfl) (by kernel_rfl) (fun _ _ _ h => h) (Or.inl ⟨by rfl, ?y4do⟩) R0 ?r4do
 case y4do =>
  intro w_ hS_
  skip
  go_simp
  try with_reducible rfl
 simp only [Act.put, List.getElem_toArray, List.getElem_cons_succ, List.getElem_cons_zero, List.setIfInBounds_toArray, List.set_cons_succ, List.set_cons_zero]
 refine wpAnyH_one (k := 2) (fuel := 2) (by kernel_rfl) rfl (by kernel_rfl) (fun K_ hK => ?_)
 refine wp_call_ex (f := 42) (by kernel_rfl) (cE y1) (fun v_ y2 hX_ => ?_)
 obtain ⟨rfl, hb_⟩ := hX_
 replace R0 := keep hb_ R0
 replace hw := Below.after hw hb_
 clear hb_
 refine hK _ _ R0 ?_
 simp only [Act.put, List.getElem_toArray, List.getElem_cons_succ, List.getElem_cons_zero, List.setIfInBounds_toArray, List.set_cons_succ, List.set_cons_zero]
 clear hK
 refine wpAnyH_take (i := 6) (v := .int .i64 (at_ + (FL : Int) - (dl : Int))) rfl (by kernel_rfl) (by kernel_rfl) (by kernel_rfl) (fun _ _ _ h => h) (Or.inl ⟨by rfl, ?y5do⟩) R0 ?r5do
 case y5do =>
  intro w_ hS_
  skip
  go_simp
  try with_reducible rfl
 simp only [Act.put, List.getElem_toArray, List.getElem_cons_succ, List.getElem_cons_zero, List.setIfInBounds_toArray, List.set_cons_succ, List.set_cons_zero]
 refine wpAnyH_take (i := 7) (v := ?vfc) rfl (by kernel_rfl) (by kernel_rfl) (by kernel_rfl) (fun _ _ _ h => h) (Or.inl ⟨by rfl, ?y6do⟩) R0 ?r6do
 case y6do =>
  intro w_ hS_
  skip
  go_simp
  try with_reducible rfl
 simp only [Act.put, List.getElem_toArray, List.getElem_cons_succ, List.getElem_cons_zero, List.setIfInBounds_toArray, List.set_cons_succ, List.set_cons_zero]
 refine wpAnyH_done (by kernel_rfl) ?_ _
 refine NoPanic.normal ?_
 go_wp2_with (fail)
 go_ret
 exact ⟨rfl, hw⟩
set_option maxRecDepth 100000 in
set_option maxHeartbeats 8000000 in
theorem a_inner3 (P : Nat → Prop) (f : Fd) (da : Option Addr) (dc : Nat) (at_ : Int) (g : Nat) (so : Option Addr) (sn sc : Nat) (w : World) (F : Option Flt3) (X : VT) (hf : Fdk w P f da dc at_) (hg : Bx w g #[.slice so sn sc])
 (hC : ∀ V, Below w.heap.size w V → Calls Tryd.prog 30 #[.slice so sn sc, .slice da f.dat.length dc, .int .i64 (at_ + ((fby f).length : Int) - (f.dat.length : Int))] V fun e w' => Gup V.heap.size F e w' (fun v => ∃ x, v = .agg (vrv x) ∧ VtM w' (fun b => V.heap.size ≤ b) x X) ∧ Below V.heap.size V w') :
 Calls Tryd.prog 75 #[.agg #[.int .i64 f.no, .int .i64 f.ty, .int .u64 (f.num : Int), .slice da f.dat.length dc], .int .i64 at_, ptr g] w (RdR w P F X) := by
 have cD := a_dataOf f da dc at_ ⟨hf.a0, by have := hf.a1; omega⟩ hf.ok hf.no0 hf.no1 hf.kn hf.fb
 clear hf
 generalize at_ + ((fby f).length : Int) - (f.dat.length : Int) = A at *
 generalize f.no = fno at *
 generalize f.ty = fty at *
 generalize f.num = num at *
 generalize f.dat.length = dl at *
 clear f
 have r0 := hp2_0 w (.cells #[.int .i64 fno, .int .i64 fty, .int .u64 (num : Int), .slice da dl dc] 78) (.cells #[.int .u64 0, .slice none 0 0, .slice none 0 0] 27)
 have r1 := hp2_1 w (.cells #[.int .i64 fno, .int .i64 fty, .int .u64 (num : Int), .slice da dl dc] 78) (.cells #[.int .u64 0, .slice none 0 0, .slice none 0 0] 27)
 have hb : Below w.heap.size w ((w.alloc (.cells #[.int .i64 fno, .int .i64 fty, .int .u64 (num : Int), .slice da dl dc] 78)).alloc (.cells #[.int .u64 0, .slice none 0 0, .slice none 0 0] 27)) := ((Below.refl _ _).alloc (Nat.le_refl _) _).alloc (by simp) _
 have hg0 := hg.keep hb
 unfold ptr
 go_enter Tryd.func75, Tryd.ntmps75
 go_upto_region 1 with (fail)
 have hz : w.heap.size + 1 < ((w.alloc (.cells #[.int .i64 fno, .int .i64 fty, .int .u64 (num : Int), .slice da dl dc] 78)).alloc (.cells #[.int .u64 0, .slice none 0 0, .slice none 0 0] 27)).heap.size := by simp
 generalize (w.alloc (.cells #[.int .i64 fno, .int .i64 fty, .int .u64 (num : Int), .slice da dl dc] 78)).alloc (.cells #[.int .u64 0, .slice none 0 0, .slice none 0 0] 27) = w0 at *
 have hbd : Below w0.heap.size w0 w0.drew := below_drN (Below.refl _ _) 1
 have hS0 : (fun W_ : World => Bx W_ w.heap.size #[.int .i64 fno, .int .i64 fty, .int .u64 (num : Int), .slice da dl dc] ∧ Bx W_ g #[.slice so sn sc]) w0.drew := ⟨⟨_, keep hbd r0⟩, hg0.keep hbd⟩
 refine wp_region_held (S := fun W_ : World => Bx W_ w.heap.size #[.int .i64 fno, .int .i64 fty, .int .u64 (num : Int), .slice da dl dc] ∧ Bx W_ g #[.slice so sn sc]) (by kernel_rfl) ?_
 change wpAnyH _ _ _ _ _ _ _ _ (World.drew _)
 replace r1 := keep hbd r1
 replace hz := Nat.lt_of_lt_of_le hz hbd.size
 replace hb := Below.after hb hbd
 clear hg0 hbd r0
 generalize w0.drew = w1 at *
 refine wpAnyH_take (i := 0) (v := .slice so sn sc) rfl (by kernel_rfl) (by kernel_rfl) (by kernel_rfl) (fun _ _ _ h => h) (Or.inl ⟨by rfl, ?y1in⟩) hS0 ?r1in
 case y1in =>
  intro w_ hS_
  obtain ⟨_, h_⟩ := hS_.2
  have c_ := cell_of_row _ _ 0 _ _ _ h_
  go_simp
  try with_reducible rfl
 simp only [Act.put, List.getElem_toArray, List.getElem_cons_zero, List.setIfInBounds_toArray, List.set_cons_succ, List.set_cons_zero]
 refine wpAnyH_take (i := 1) (v := ?vfa) rfl (by kernel_rfl) (by kernel_rfl) (by kernel_rfl) (fun _ _ _ h => h) (Or.inl ⟨by rfl, ?y2in⟩) hS0 ?r2in
 case y2in =>
  intro w_ hS_
  skip
  go_simp
  try with_reducible rfl
 simp only [Act.put, List.getElem_toArray, List.getElem_cons_succ, List.getElem_cons_zero, List.setIfInBounds_toArray, List.set_cons_succ, List.set_cons_zero]
 refine wpAnyH_take (i := 2) (v := .slice da dl dc) rfl (by kernel_rfl) (by kernel_rfl) (by kernel_rfl) (fun _ _ _ h => h) (Or.inl ⟨by rfl, ?y3in⟩) hS0 ?r3in
 case y3in =>
  intro w_ hS_
  obtain ⟨_, h_⟩ := hS_.1
  have c_ := cell_of_row _ _ 3 _ _ _ h_
  go_simp
  try with_reducible rfl
 simp only [Act.put, List.getElem_toArray, List.getElem_cons_succ, List.getElem_cons_zero, List.setIfInBounds_toArray, List.set_cons_succ, List.set_cons_zero]
 refine wpAnyH_take (i := 3) (v := .agg #[.int .i64 fno, .int .i64 fty, .int .u64 (num : Int), .slice da dl dc]) rfl (by kernel_rfl) (by kernel_rfl) (by kernel_rfl) (fun _ _ _ h => h) (yieldsIf_load_mid (by rfl) 78 _ rfl (w.heap.size) 0 rfl [.int .i64 fno, .int .i64 fty, .int .u64 (num : Int), .slice da dl dc] _ (fun _ h => range_row h.1) Tryd.underlying78 rfl infoFi) hS0 ?_
 simp only [Act.put, List.getElem_toArray, List.getElem_cons_succ, List.getElem_cons_zero, List.setIfInBounds_toArray, List.set_cons_succ, List.set_cons_zero]
 refine wpAnyH_take (i := 4) (v := .int .i64 at_) rfl (by kernel_rfl) (by kernel_rfl) (by kernel_rfl) (fun _ _ _ h => h) (Or.inl ⟨by rfl, ?y4in⟩) hS0 ?r4in
 case y4in =>
  intro w_ hS_
  skip
  go_simp
  try with_reducible rfl
 simp only [Act.put, List.getElem_toArray, List.getElem_cons_succ, List.getElem_cons_zero, List.setIfInBounds_toArray, List.set_cons_succ, List.set_cons_zero]
 refine wpAnyH_one (k := 5) (fuel := 2) (by kernel_rfl) rfl (by kernel_rfl) (fun K_ hK => ?_)
 refine wp_call_ex (R := fun u w' => u = .int .i64 A ∧ Below w1.heap.size w1 w') (by kernel_rfl) ((cD w1).mono fun e w' h => ⟨_, h.1, rfl, h.2⟩) (fun u w2 hX_ => ?_)
 obtain ⟨rfl, hb2⟩ := hX_
 have hS2 : _ ∧ _ := ⟨hS0.1.keep hb2, hS0.2.keep hb2⟩
 replace r1 := keep hb2 r1
 replace hz := Nat.lt_of_lt_of_le hz hb2.size
 replace hb := Below.after hb hb2
 refine hK _ _ hS2 ?_
 simp only [Act.put, List.getElem_toArray, List.getElem_cons_succ, List.getElem_cons_zero, List.setIfInBounds_toArray, List.set_cons_succ, List.set_cons_zero]
 clear hK cD hS0 hb2
 have cC := hC _ hb
 clear hC
 refine wpAnyH_one (k := 6) (fuel := 1) (by kernel_rfl) rfl (by kernel_rfl) (fun K_ hK => ?_)
 refine wp_call_upW (base := w2.heap.size) (F := F) (R := fun v w' => ∃ x, v = .agg (vrv x) ∧ VtM w' (fun b => w2.heap.size ≤ b) x X) (B := fun w' => Below w2.heap.size w2 w') (by kernel_rfl) cC ?_ ?_
 ·rintro hF v_ w3 ⟨x, rfl, hvt⟩ hb3
  subst hF
  obtain ⟨xn, xda, xdl, xdc, xpa, xpl, xpc⟩ := x
  have hS3 : _ ∧ _ := ⟨hS2.1.keep hb3, hS2.2.keep hb3⟩
  replace r1 := keep hb3 r1
  have szw := hb.size
  replace hb := Below.after hb hb3
  refine hK _ _ hS3 ?_
  simp only [Act.put, List.getElem_toArray, List.getElem_cons_succ, List.getElem_cons_zero, List.setIfInBounds_toArray, List.set_cons_succ, List.set_cons_zero]
  clear hK hS2 hb3 cC
  have hone : (#[.int .u64 (xn : Int), .slice xda xdl xdc, .slice xpa xpl xpc] : Array Value).all (·.oneCell') = true := by simp [Value.oneCell']
  refine wpAnyH_one (k := 7) (fuel := 0) (by kernel_rfl) rfl (by kernel_rfl) (fun K_ hK => ?_)
  refine wp_store_row 27 _ _ rfl (w.heap.size + 1) #[.int .u64 (xn : Int), .slice xda xdl xdc, .slice xpa xpl xpc] rfl rfl 27 _ r1 infoV rfl hone ?_
  have rF := setRow_heap w3 (w.heap.size + 1) _ #[.int .u64 (xn : Int), .slice xda xdl xdc, .slice xpa xpl xpc] _ _ r1
  have hS4 : Bx (w3.setRow (w.heap.size + 1) #[.int .u64 (xn : Int), .slice xda xdl xdc, .slice xpa xpl xpc]) w.heap.size #[.int .i64 fno, .int .i64 fty, .int .u64 (num : Int), .slice da dl dc] ∧ Bx (w3.setRow (w.heap.size + 1) #[.int .u64 (xn : Int), .slice xda xdl xdc, .slice xpa xpl xpc]) g #[.slice so sn sc] := ⟨hS3.1.row (by omega), hS3.2.row (by have := hg.lt; omega)⟩
  have hv4 : VtM (w3.setRow (w.heap.size + 1) #[.int .u64 (xn : Int), .slice xda xdl xdc, .slice xpa xpl xpc]) (fun b => P b ∨ w.heap.size ≤ b) ⟨xn, xda, xdl, xdc, xpa, xpl, xpc⟩ X := hvt.other _ _ (fun b hb_ => ⟨by omega, .inr (by omega)⟩)
  have hb4 := below_setRow (g := w.heap.size + 1) hb (by omega) #[.int .u64 (xn : Int), .slice xda xdl xdc, .slice xpa xpl xpc]
  refine hK _ _ hS4 ?_
  simp only [Act.put]
  clear hK hvt
  generalize w3.setRow (w.heap.size + 1) #[.int .u64 (xn : Int), .slice xda xdl xdc, .slice xpa xpl xpc] = w4 at *
  refine wpAnyH_done (by kernel_rfl) ?_ _
  go_wp2_with (fail)
  exact bodyPost_ret (v := .agg #[.int .u64 (xn : Int), .slice xda xdl xdc, .slice xpa xpl xpc]) (results_cell_row Tryd.results75 _ _ (w.heap.size + 1) _ #[.int .u64 (xn : Int), .slice xda xdl xdc, .slice xpa xpl xpc] _ _ rfl rF Tryd.underlying27 rfl infoV) rfl ⟨⟨_, rfl, ⟨xn, xda, xdl, xdc, xpa, xpl, xpc⟩, rfl, hv4⟩, hb4⟩
 ·intro y hF q w3 h1_ h2_ hb3
  subst hF
  have szw := hb.size
  replace hb := Below.after hb hb3
  go_wp2_with (fail)
  exact ⟨rfl, ⟨q, rfl, by omega, h2_⟩, hb⟩
set_option maxRecDepth 100000 in
set_option maxHeartbeats 8000000 in
theorem a_slotDecodeT (no wt : Int) (k1 k2 k3 : FuncId) (a1 a2 a3 : Array Value) (fno fty : Int) (fnum : Nat) (da : Option Addr) (dl dc : Nat) (at_ : Int) (F : Option Flt3) (P : Nat → Prop) (X : VT) (w : World) (hP : ∀ b, P b → b < w.heap.size)
 (hent : ∀ args W, (callFunc k3 args).run Tryd.prog W = .ok (.enter k3 args) W)
 (hC : ∀ V, Below w.heap.size w V → fno = no → fty = wt → Calls Tryd.prog k3 (#[.agg #[.int .i64 fno, .int .i64 fty, .int .u64 (fnum : Int), .slice da dl dc], .int .i64 at_] ++ a3) V (RdR V P F X)) :
 Calls Tryd.prog 41 #[.agg #[.int .i64 no, .int .i64 wt, .func (.func k1) #[] a1, .func (.func k2) #[] a2, .func (.func k3) #[] a3], .agg #[.int .i64 fno, .int .i64 fty, .int .u64 (fnum : Int), .slice da dl dc], .int .i64 at_] w (RdR w P (if fno ≠ no then some ⟨0, at_, 81⟩ else if fty ≠ wt then some ⟨0, at_, 82⟩ else F) X) := by
 have r0 := hp3_0 w (.cells #[.int .i64 no, .int .i64 wt, .func (.func k1) #[] a1, .func (.func k2) #[] a2, .func (.func k3) #[] a3] 93) (.cells #[.int .i64 fno, .int .i64 fty, .int .u64 (fnum : Int), .slice da dl dc] 78) (.cells #[.int .u64 0, .slice none 0 0, .slice none 0 0] 27)
 have r1 := hp3_1 w (.cells #[.int .i64 no, .int .i64 wt, .func (.func k1) #[] a1, .func (.func k2) #[] a2, .func (.func k3) #[] a3] 93) (.cells #[.int .i64 fno, .int .i64 fty, .int .u64 (fnum : Int), .slice da dl dc] 78) (.cells #[.int .u64 0, .slice none 0 0, .slice none 0 0] 27)
 have r2 := hp3_2 w (.cells #[.int .i64 no, .int .i64 wt, .func (.func k1) #[] a1, .func (.func k2) #[] a2, .func (.func k3) #[] a3] 93) (.cells #[.int .i64 fno, .int .i64 fty, .int .u64 (fnum : Int), .slice da dl dc] 78) (.cells #[.int .u64 0, .slice none 0 0, .slice none 0 0] 27)
 have hb : Below w.heap.size w (((w.alloc (.cells #[.int .i64 no, .int .i64 wt, .func (.func k1) #[] a1, .func (.func k2) #[] a2, .func (.func k3) #[] a3] 93)).alloc (.cells #[.int .i64 fno, .int .i64 fty, .int .u64 (fnum : Int), .slice da dl dc] 78)).alloc (.cells #[.int .u64 0, .slice none 0 0, .slice none 0 0] 27)) := (((Below.refl _ _).alloc (Nat.le_refl _) _).alloc (by simp) _).alloc (by simp; omega) _
 have hsz3 : w.heap.size + 1 + 1 < ((((w.alloc (.cells #[.int .i64 no, .int .i64 wt, .func (.func k1) #[] a1, .func (.func k2) #[] a2, .func (.func k3) #[] a3] 93)).alloc (.cells #[.int .i64 fno, .int .i64 fty, .int .u64 (fnum : Int), .slice da dl dc] 78)).alloc (.cells #[.int .u64 0, .slice none 0 0, .slice none 0 0] 27))).heap.size := by simp
 unfold RdR at *
 obtain ⟨R, hR⟩ : ∃ R, (if fno ≠ no then some ⟨0, at_, 81⟩ else if fty ≠ wt then some ⟨0, at_, 82⟩ else F) = R := ⟨_, rfl⟩
 rw [hR]
 have cC := hC _ hb
 replace hb := hide hb
 replace cC := hide cC
 replace hsz3 := hide hsz3
 clear hC
 go_enter Tryd.func41, Tryd.ntmps41
 go_upto_region 1 with (fail)
 generalize (((w.alloc (.cells #[.int .i64 no, .int .i64 wt, .func (.func k1) #[] a1, .func (.func k2) #[] a2, .func (.func k3) #[] a3] 93)).alloc (.cells #[.int .i64 fno, .int .i64 fty, .int .u64 (fnum : Int), .slice da dl dc] 78)).alloc (.cells #[.int .u64 0, .slice none 0 0, .slice none 0 0] 27)) = W3 at *
 have s0 := cell_of_row _ _ 0 _ _ _ r0
 have s1 := cell_of_row _ _ 1 _ _ _ r0
 have s4 := cell_of_row _ _ 4 _ _ _ r0
 have f0 := cell_of_row _ _ 0 _ _ _ r1
 have f1 := cell_of_row _ _ 1 _ _ _ r1
 by_cases hno : fno = no
 ·subst hno
  by_cases hty : fty = wt
  ·subst hty
   have eR : F = R := by rw [← hR, if_neg (by simp), if_neg (by simp)]
   replace eR := hide eR
   replace cC := hide (cC.out rfl rfl)
   clear hR
   replace r2 := hide r2
   go_upto_region 5 with (fail)
   clear s0 s1 f0 f1
   repeat ((fail_if_success (refine wpList_load_want rfl 78 _ rfl (w.heap.size + 1) rfl 78 #[.int .i64 fno, .int .i64 fty, .int .u64 (fnum : Int), .slice da dl dc] (0, 0) _ r1 Tryd.underlying78 rfl infoFi ?_)); first | go_skip | go_step)
   refine wpList_load_want rfl 78 _ rfl (w.heap.size + 1) rfl 78 #[.int .i64 fno, .int .i64 fty, .int .u64 (fnum : Int), .slice da dl dc] (0, 0) _ r1 Tryd.underlying78 rfl infoFi ?_
   try simp only [Act.put, List.setIfInBounds_toArray, List.set_cons_succ, List.set_cons_zero]
   repeat ((fail_if_success (refine wpList_call_upW W3.heap.size F (fun v w' => ∃ x, v = .agg (vrv x) ∧ VtM w' (fun b => P b ∨ W3.heap.size ≤ b) x X) (fun w' => Below W3.heap.size W3 w') rfl (run_call_val (.tmp 22) #[.tmp 23, .tmp 24] #[78, 3] rfl rfl _ (by simp only [List.map_toArray, List.map_cons, List.map_nil]; rfl) hent) cC.out ?_ ?_)); first | go_skip | go_step)
   refine wpList_call_upW W3.heap.size F (fun v w' => ∃ x, v = .agg (vrv x) ∧ VtM w' (fun b => P b ∨ W3.heap.size ≤ b) x X) (fun w' => Below W3.heap.size W3 w') rfl (run_call_val (.tmp 22) #[.tmp 23, .tmp 24] #[78, 3] rfl rfl _ (by simp only [List.map_toArray, List.map_cons, List.map_nil]; rfl) hent) cC.out ?_ ?_
   ·rintro hF v_ w4 ⟨x, rfl, hvt⟩ hb4
    subst hF
    obtain ⟨xn, xda, xdl, xdc, xpa, xpl, xpc⟩ := x
    have R4 := keep hb4 r2.out
    have hw4 := Below.after hb.out hb4
    have szW := hsz3.out
    have RF := hide (setRow_heap _ (w.heap.size + 1 + 1) _ #[.int .u64 (xn : Int), .slice xda xdl xdc, .slice xpa xpl xpc] _ _ R4)
    have hwF := hide (below_setRow (g := w.heap.size + 1 + 1) hw4 (by omega) #[.int .u64 (xn : Int), .slice xda xdl xdc, .slice xpa xpl xpc])
    have hvF : Hid (VtM (w4.setRow (w.heap.size + 1 + 1) #[.int .u64 (xn : Int), .slice xda xdl xdc, .slice xpa xpl xpc]) (fun b => P b ∨ w.heap.size ≤ b) ⟨xn, xda, xdl, xdc, xpa, xpl, xpc⟩ X) := hide (hvt.other _ _ (fun b hb_ => by
     rcases hb_ with q | q
     ·exact ⟨by have := hP b q; omega, .inl q⟩
     ·exact ⟨by omega, .inr (by omega)⟩))
    have hone : (#[.int .u64 (xn : Int), .slice xda xdl xdc, .slice xpa xpl xpc] : Array Value).all (·.oneCell') = true := by simp [Value.oneCell']
    unfold vrv vrw
    clear r1 r0 r2 hb cC hb4 hw4 s4 hvt hsz3 szW hP
    try simp only [Act.put, List.setIfInBounds_toArray, List.set_cons_succ, List.set_cons_zero]
    go_wp2_with (first | (refine wpList_store_row rfl 27 _ _ rfl (w.heap.size + 1 + 1) #[.int .u64 (xn : Int), .slice xda xdl xdc, .slice xpa xpl xpc] rfl rfl 27 _ R4 infoV rfl hone ?_) | fail)
    refine bodyPost_ret (v := .agg #[.int .u64 (xn : Int), .slice xda xdl xdc, .slice xpa xpl xpc]) (results_cell_row Tryd.results41 _ _ (w.heap.size + 1 + 1) _ _ _ _ rfl RF.out Tryd.underlying27 rfl infoV) rfl ⟨?_, hwF.out⟩
    rw [← eR.out]
    exact ⟨_, rfl, ⟨xn, xda, xdl, xdc, xpa, xpl, xpc⟩, rfl, hvF.out⟩
   ·intro x hF g w4 h1 h2 hb4
    subst hF
    have szw := hb.out.size
    have hw4 := Below.after hb.out hb4
    go_wp2_with (fail)
    rw [← eR.out]
    exact ⟨rfl, ⟨g, rfl, by omega, h2⟩, hw4⟩
  ·have eR : R = some ⟨0, at_, 82⟩ := by rw [← hR, if_neg (by simp), if_pos hty]
   have hd : (fty == wt) = false := by simpa using hty
   replace eR := hide eR
   clear hR cC r0 r1 r2
   go_wp2_with (fail)
   refine (a_giveUp 0 at_ 82 _).mono ?_
   rintro e_ w2 ⟨hg, hb2⟩
   obtain ⟨g, rfl, hgl, hgr⟩ := hg
   have szw := hb.out.size
   have hw := Below.after hb.out hb2
   clear hb
   go_wp2
   rw [eR.out]
   exact ⟨rfl, ⟨g, rfl, Nat.le_trans szw hgl, hgr⟩, hw⟩
 ·have eR : R = some ⟨0, at_, 81⟩ := by rw [← hR, if_pos hno]
  have hd : (fno == no) = false := by simpa using hno
  replace eR := hide eR
  clear hR cC r0 r1 r2
  go_wp2_with (fail)
  refine (a_giveUp 0 at_ 81 _).mono ?_
  rintro e_ w2 ⟨hg, hb2⟩
  obtain ⟨g, rfl, hgl, hgr⟩ := hg
  have szw := hb.out.size
  have hw := Below.after hb.out hb2
  clear hb
  go_wp2
  rw [eR.out]
  exact ⟨rfl, ⟨g, rfl, Nat.le_trans szw hgl, hgr⟩, hw⟩
end Go.Proofs.YtgcpebhjehlacaaDoor
namespace Go.Proofs.YtgcpebhjehlacaaDoor
set_option maxRecDepth 100000
open Go Go.RowKit Go.Sort
attribute [local go_sem] setCell_drewN alloc_drewN
def DeR (w : World) (F : Option Flt3) (X : VT) (e : Ending) (w' : World) : Prop := Gup w.heap.size F e w' (fun v => ∃ x, v = .agg (vrv x) ∧ VtM w' (fun b => w.heap.size ≤ b) x X) ∧ Below w.heap.size w w'
theorem own_capT {W : World} {b : Nat} {a : Option Addr} {l c : Nat} {d : List B} (h : Own W b (.slice a l c) d) : l ≤ c := by
 obtain ⟨_, ⟨e, _⟩ | ⟨g, cap, cur, e, _, _, hn, _⟩⟩ := h
 ·cases e; exact Nat.le_refl _
 ·cases e; exact hn
theorem its_item {W : World} {b : Nat} {v : Value} {us : List Value} {ps : List (List B)} (h : Its W b v us ps) {i : Nat} (hi : i < ps.length) : ∃ gx off xc uo uc, v = .slice (some ⟨gx, off, none⟩) ps.length xc ∧ W.cell? ⟨gx, off + i, none⟩ = some (gv us i) ∧ gv us i = .slice uo (gp ps i).length uc ∧ Own W b (gv us i) (gp ps i) := by
 obtain ⟨h1, h2, h3, _⟩ := h
 obtain ⟨uo, uc, hu⟩ := slen_own (h3 i (by omega))
 rcases h1.2 with ⟨_, h0⟩ | ⟨g, cp, cur, p2, pb, pg, p3⟩
 ·omega
 ·have := h1.cells (g := g) (by rw [p2]; rfl) i (gv us i) (by rw [gv, List.getD_eq_getElem?_getD, List.getElem?_eq_getElem (by omega)]; rfl)
  rw [addr_add] at this
  exact ⟨g, 0, cp, uo, uc, by rw [p2, h2], this, hu, h3 i (by omega)⟩
theorem spl_er_b : ∀ (f p c : Nat) (l : List B) (e : Int) (q : Nat), spl f p c l = .er e q → e ≠ 0 ∧ q ≤ p + l.length
 | 0, p, c, l, e, q, h => by rw [spl] at h; cases h
 | f + 1, p, c, l, e, q, h => by
  rw [spl] at h
  by_cases h0 : l = []
  ·rw [if_pos h0] at h; cases h
  rw [if_neg h0] at h
  by_cases h1 : c = 4096
  ·rw [if_pos h1] at h
   injection h with h2 h3
   exact ⟨by omega, by omega⟩
  rw [if_neg h1] at h
  cases hr : ri l with
  | er e' =>
   rw [hr] at h
   injection h with h2 h3
   exact ⟨by have := ri_er hr; omega, by omega⟩
  | ok x n =>
   rw [hr] at h
   simp only at h
   obtain ⟨r1, r2, r3, r4, r5⟩ := ri_ok hr
   cases hs : spl f (p + n) (c + 1) (l.drop n) with
   | ok qs => rw [hs] at h; cases h
   | er e' q' =>
    rw [hs] at h
    injection h with h2 h3
    have := spl_er_b f (p + n) (c + 1) (l.drop n) e' q' hs
    rw [List.length_drop] at this
    exact ⟨by omega, by omega⟩
theorem spa_bd (d : List B) : 0 ≤ spa (sp d) ∧ spa (sp d) ≤ 4194304 := by
 unfold sp
 by_cases h : 4194304 < d.length
 ·rw [if_pos h]; exact ⟨by decide, by decide⟩
 ·rw [if_neg h]
  cases hr : spl d.length 0 0 d with
  | ok ps => exact ⟨by show (0 : Int) ≤ 0; omega, by show (0 : Int) ≤ 4194304; omega⟩
  | er e q =>
   have := (spl_er_b _ _ _ _ _ _ hr).2
   exact ⟨by show (0 : Int) ≤ (q : Int); omega, by show (q : Int) ≤ 4194304; omega⟩
theorem bdrop (bss : List (List B)) (k : Nat) (h : k < bss.length) : bss.drop k = gp bss k :: bss.drop (k + 1) := by
 rw [List.drop_eq_getElem_cons h, gp, List.getD_eq_getElem?_getD, List.getElem?_eq_getElem h]; rfl
theorem btake {α : Type} (dv : List B → α) (bss : List (List B)) (k : Nat) (h : k < bss.length) : (bss.take (k + 1)).map dv = (bss.take k).map dv ++ [dv (gp bss k)] := by
 rw [take_snoc bss k h, List.map_append]; rfl
set_option maxRecDepth 100000 in
set_option maxHeartbeats 8000000 in
theorem a_decodeAll (dec : List B → Int → Option Flt3) (dv : List B → VT) (so : Option Addr) (sn sc : Nat) (iv : Value) (us : List Value) (bss : List (List B)) (b0 : Nat) (from_ : Int) (w : World) (hI : Its w b0 iv us bss) (hn : bss.length ≤ 4096) (hJ : (jn bss).length ≤ 4194304) (hfr : 0 ≤ from_ ∧ from_ + ((jn bss).length : Int) ≤ 1152921504606846976)
 (hC : ∀ V b bv f, Below w.heap.size w V → BysB V bv b → (∀ a l c, bv = .slice a l c → l ≤ c) → 0 ≤ f → f + (b.length : Int) ≤ 1152921504606846976 → Calls Tryd.prog 30 #[.slice so sn sc, bv, .int .i64 f] V (DeR V (dec b f) (dv b))) :
 Calls Tryd.prog 83 #[.slice so sn sc, iv, .int .i64 from_] w (DeR w (itN dec bss from_) (.mk 0 [] (bss.map dv))) := by
 obtain ⟨R, hR⟩ : ∃ R, itN dec bss from_ = R := ⟨_, rfl⟩
 unfold DeR at *
 rw [hR]
 have rZ := hp1_0 w (.cells #[.int .u64 0, .slice none 0 0, .slice none 0 0] 27)
 have hb0 : Below w.heap.size w (w.alloc (.cells #[.int .u64 0, .slice none 0 0, .slice none 0 0] 27)) := (Below.refl _ _).alloc (Nat.le_refl _) _
 have hz0 : (w.alloc (.cells #[.int .u64 0, .slice none 0 0, .slice none 0 0] 27)).heap.size = w.heap.size + 1 := by simp
 obtain ⟨ivo, ivc, rfl⟩ : ∃ ivo ivc, iv = .slice ivo bss.length ivc := by
  obtain ⟨h1, h2, _⟩ := hI
  obtain ⟨_, ⟨rfl, h0⟩ | ⟨g, cap, cur, rfl, _⟩⟩ := h1
  ·exact ⟨none, 0, by rw [← h2, h0]⟩
  ·exact ⟨_, _, by rw [h2]⟩
 have hI0 := hide (hI.keep hb0)
 have HC := hide hC
 have eR : Hid (R = itN dec (bss.drop 0) from_) := hide hR.symm
 have hJ0 : from_ + ((jn (bss.drop 0)).length : Int) ≤ 1152921504606846976 := hfr.2
 replace hb0 := hide hb0
 clear hI hC hR
 go_enter Tryd.func83, Tryd.ntmps83
 go_upto_region 2 with (fail)
 generalize w.alloc (.cells #[.int .u64 0, .slice none 0 0, .slice none 0 0] 27) = w0 at *
 go_wp2_with (fail)
 go_loopw [12, 9, 7, 2] (fun i _ pv fr wr => ∃ (k : Nat) (F : Int) (xs : List VR), k ≤ bss.length ∧ i = .int .i64 k ∧ fr = .int .i64 F ∧ 0 ≤ F ∧ F + ((jn (bss.drop k)).length : Int) ≤ 1152921504606846976 ∧ R = itN dec (bss.drop k) F ∧ PaW wr w0.heap.size w0.heap.size pv xs ((bss.take k).map dv) ∧ Below w0.heap.size w0 wr) (fun i _ _ _ _ => bss.length - (intOf i).toNat)
 case atStart => exact ⟨0, from_, [], by omega, rfl, rfl, hfr.1, hJ0, eR.out, paw_nil _ _ _, Below.refl _ _⟩
 case round =>
  clear eR hJ0 hfr
  obtain ⟨k, F, xs, hk, rfl, rfl, hF0, hF1, eR, hP, hby⟩ := hrel
  generalize u7 = pv at *
  have hlk : ((bss.take k).map dv).length = k := by rw [List.length_map, List.length_take]; omega
  by_cases hlt : k < bss.length
  ·have hd2 : decide ((k : Int) < (bss.length : Int)) = true := by simp; omega
   have hmap := hide (btake dv bss k hlt)
   have hJk : (jn (bss.drop k)).length = (en (gp bss k).length).length + (gp bss k).length + (jn (bss.drop (k + 1))).length := by rw [bdrop bss k hlt, jn, List.length_append, itm_len]
   have hJl : (jn (bss.drop k)).length ≤ 4194304 := by
    have : (jn bss).length = (jn (bss.take k)).length + (jn (bss.drop k)).length := by rw [← List.length_append, ← jn_app, List.take_append_drop]
    omega
   have eR2 : R = match dec (gp bss k) (F + ((en (gp bss k).length).length : Int)) with
    | some e => some e
    | none => itN dec (bss.drop (k + 1)) (F + ((en (gp bss k).length).length : Int) + ((gp bss k).length : Int)) := by
    rw [eR, bdrop bss k hlt, itN]
    rfl
   clear eR
   obtain ⟨gx, off, xc, uo, uc, ei, hcell, hgv, hOw⟩ := its_item (hI0.out.keep hby) hlt
   injection ei with ei1 ei2 ei3
   subst ei1 ei3
   rw [hgv] at hcell hOw
   have hBb := hOw.bysB (by omega)
   have hcb := own_capT hOw
   have cC := fun V (hV : Below wr.heap.size wr V) => HC.out V (gp bss k) (.slice uo (gp bss k).length uc) (F + ((en (gp bss k).length).length : Int)) (hb0.out.trans ((Below.after hby hV).mono (by omega))) (hBb.keep hV) (fun a l c e => by cases e; exact hcb) (by omega) (by omega)
   have cS := a_sizeX (gp bss k).length (by omega)
   obtain ⟨Fk, hFk⟩ : ∃ Fk, dec (gp bss k) (F + ((en (gp bss k).length).length : Int)) = Fk := ⟨_, rfl⟩
   rw [hFk] at eR2 cC
   replace cC := hide cC
   replace eR2 := hide eR2
   clear hFk HC hI0 hgv hOw hBb hcb
   generalize dv (gp bss k) = Xk at *
   generalize (gp bss k).length = L at *
   generalize ((en L).length) = H at *
   have q0 : IntKind.wrap .u64 (L : Int) = (L : Int) := by show (L : Int) % 18446744073709551616 = L; omega
   have q1 : IntKind.wrap .i64 (F + (H : Int)) = F + (H : Int) := by rw [IntKind.wrap_i64]; omega
   have q2 : IntKind.wrap .i64 (F + (H : Int) + (L : Int)) = F + (H : Int) + (L : Int) := by rw [IntKind.wrap_i64]; omega
   replace hJk := hide hJk
   replace hby := hide hby
   replace hP := hide hP
   go_wp2_with (fail)
   refine (cS wr).mono ?_
   rintro e_ w1 ⟨_, rfl, rfl, hb1⟩
   have cC1 := cC.out w1 hb1
   clear cC cS hcell
   go_wp2_with (fail)
   refine cC1.mono ?_
   rintro e_ w2 ⟨hG, hb2⟩
   have szr := hby.out.size
   have sz1 := hb1.size
   have hb12 := Below.after hb1 hb2
   have sz2 := hb2.size
   have hP2 := hP.out.keep hb12
   have hby2 := Below.after hby.out hb12
   have hpo := own_high_row hP.out.1
   clear cC1 hP hby hb1 hb2
   cases Fk with
   | some fl =>
    obtain ⟨q, rfl, h1_, h2_⟩ := hG
    go_wp2
    rw [eR2.out]
    exact ⟨rfl, ⟨q, rfl, by omega, h2_⟩, hb0.out.trans (hby2.mono (by omega))⟩
   | none =>
    obtain ⟨v, rfl, x, rfl, hvt⟩ := hG
    have eR3 : Hid (R = itN dec (bss.drop (k + 1)) (F + (H : Int) + (L : Int))) := hide eR2.out
    clear eR2
    have hvx : VtM w2 (fun b => w0.heap.size ≤ b ∧ pv.ownBlock ≠ some b) x Xk := hvt.wid (fun b hb_ => ⟨by omega, fun e => by have := (hpo b e).2; omega⟩)
    obtain ⟨xn, xda, xdl, xdc, xpa, xpl, xpc⟩ := x
    clear hvt hb12
    replace hP2 := hide hP2
    replace hvx := hide hvx
    replace hby2 := hide hby2
    unfold vrv vrw
    go_wp2_with (first | (refine wpList_plain rfl fun K_ hK => ?_; refine wp_world_op (.slice (some ⟨w2.heap.size, 0, none⟩) 1 1) (w2.alloc (.cells #[.int .u64 (xn : Int), .slice xda xdl xdc, .slice xpa xpl xpc] 27)) (op_bv1 _ rfl _ _ _ rfl) ?_; refine hK _ _ ?_; clear hK; refine wpList_stay ?_) | fail)
    unfold WpStay
    have NV := new_cells4 w2 #[.int .u64 (xn : Int), .slice xda xdl xdc, .slice xpa xpl xpc] 27
    have hb_ : Below w2.heap.size w2 (w2.alloc (.cells #[.int .u64 (xn : Int), .slice xda xdl xdc, .slice xpa xpl xpc] 27)) := (Below.refl _ _).alloc (Nat.le_refl _) _
    have hP3 := hP2.out.keep hb_
    have hvx3 := hvx.out.blw hb_
    have hby3 := Below.after hby2.out hb_
    have sz3 := hby3.size
    clear hP2 hvx hby2 hb_
    try simp only [Act.put, List.getElem_toArray, List.getElem_cons_succ, List.getElem_cons_zero, List.setIfInBounds_toArray, List.set_cons_succ, List.set_cons_zero]
    generalize w2.alloc (.cells #[.int .u64 (xn : Int), .slice xda xdl xdc, .slice xpa xpl xpc] 27) = w3 at *
    generalize w2.heap.size = gV at *
    obtain ⟨iV, hiV, hiz, his, hib⟩ := infoVI
    have hOk := hP3.1
    rw [hlk] at hOk
    have hpo3 := own_high_row hOk
    refine wpList_plain rfl fun K_ hK => ?_
    refine wp_append_nx _ _ 25 rfl w0.heap.size 27 iV (.agg #[.int .u64 0, .slice none 0 0, .slice none 0 0]) 3 56 Tryd.underlying25 hiV hiz his hib rfl (by decide) pv k (vrs xs) rfl hOk ⟨gV, 0, none⟩ 1 1 [.int .u64 (xn : Int), .slice xda xdl xdc, .slice xpa xpl xpc] rfl rfl NV (fun x hx => ?_) (by unfold maxLen; omega) (by omega) sz3 (fun pv' w4 hO4 hgr hnx => ?_)
    ·simp at hx
     rcases hx with rfl | rfl | rfl <;> rfl
    have hP4 := hP3.snoc hvx3 (by rw [hlk]; exact hO4) hgr hnx
    have hby4 := hby3.grown hgr sz3 (fun z e => (hpo3 z e).1)
    refine hK _ _ ?_
    clear hK hP3 hvx3 hby3 hOk hO4 hgr hnx NV hpo hpo3
    simp only [Act.put, List.setIfInBounds_toArray, List.set_cons_succ, List.set_cons_zero]
    replace hP4 := hide hP4
    replace hby4 := hide hby4
    go_wp2_with (fail)
    refine ⟨⟨k + 1, F + (H : Int) + (L : Int), _, by omega, by go_num, rfl, by omega, by have := hJk.out; omega, eR3.out, by rw [hmap.out]; exact hP4.out, hby4.out⟩, ?_⟩
    simp [intOf]; omega
  ·obtain rfl : k = bss.length := by omega
   have hd2 : decide ((bss.length : Int) < (bss.length : Int)) = false := by simp
   have eR2 : R = none := by rw [eR, List.drop_length, itN]
   replace eR2 := hide eR2
   rw [List.take_length] at hP
   obtain ⟨pa, pc, epv, hmsg⟩ := hP.msg (Nat.le_refl _) (by rw [List.length_map]; omega)
   rw [List.length_map] at epv hmsg
   subst epv
   have rZ3 := (hby.block w.heap.size (by omega)).trans rZ
   have hone : (#[.int .u64 0, .slice none 0 0, .slice pa bss.length pc] : Array Value).all (·.oneCell') = true := by simp [Value.oneCell']
   have RF := hide (setRow_heap wr w.heap.size _ #[.int .u64 0, .slice none 0 0, .slice pa bss.length pc] _ _ rZ3)
   have hwF := hide (below_setRow (g := w.heap.size) (hb0.out.trans (hby.mono (by omega))) (Nat.le_refl _) #[.int .u64 0, .slice none 0 0, .slice pa bss.length pc])
   have hvF : Hid (VtM (wr.setRow w.heap.size #[.int .u64 0, .slice none 0 0, .slice pa bss.length pc]) (fun b => w.heap.size ≤ b) ⟨0, none, 0, 0, pa, bss.length, pc⟩ (.mk 0 [] (bss.map dv))) := hide (hmsg.other _ _ (fun b hb_ => ⟨by omega, by omega⟩))
   clear eR hP hby hmsg HC hI0 hlk
   go_wp2_with (first | (refine wpList_store_row rfl 27 _ _ rfl w.heap.size #[.int .u64 0, .slice none 0 0, .slice pa bss.length pc] rfl rfl 27 _ rZ3 infoV rfl hone ?_) | fail)
   refine bodyPost_ret (v := .agg #[.int .u64 0, .slice none 0 0, .slice pa bss.length pc]) (results_cell_row Tryd.results83 _ _ w.heap.size _ _ _ _ rfl RF.out Tryd.underlying27 rfl infoV) rfl ⟨?_, hwF.out⟩
   rw [eR2.out]
   exact ⟨_, rfl, ⟨0, none, 0, 0, pa, bss.length, pc⟩, rfl, hvF.out⟩
set_option maxRecDepth 100000 in
set_option maxHeartbeats 8000000 in
theorem a_listed3 (P : Nat → Prop) (f : Fd) (da : Option Addr) (dc : Nat) (at_ : Int) (g1 g2 : Nat) (y : Value) (l m : Nat) (so : Option Addr) (sn sc : Nat) (w : World) (dec : List B → Int → Option Flt3) (dv : List B → VT) (hf : Fdk w P f da dc at_) (hty : f.ty = 2) (h1 : Bx w g1 #[.int .u64 (l : Int), .int .u64 (m : Int), y]) (h2 : Bx w g2 #[.slice so sn sc])
 (hC : ∀ V b bv f, Below w.heap.size w V → BysB V bv b → (∀ a l c, bv = .slice a l c → l ≤ c) → 0 ≤ f → f + (b.length : Int) ≤ 1152921504606846976 → Calls Tryd.prog 30 #[.slice so sn sc, bv, .int .i64 f] V (DeR V (dec b f) (dv b))) :
 Calls Tryd.prog 81 #[.agg #[.int .i64 f.no, .int .i64 f.ty, .int .u64 (f.num : Int), .slice da f.dat.length dc], .int .i64 at_, ptr g1, ptr g2] w (RdR w P (lsN l m dec f.dat at_ (at_ + ((fby f).length : Int) - (f.dat.length : Int))) (.mk 0 [] ((spp (sp f.dat)).map dv))) := by
 have cD := a_dataOf f da dc at_ ⟨hf.a0, by have := hf.a1; omega⟩ hf.ok hf.no0 hf.no1 hf.kn hf.fb
 have cS := fun V (hV : Below w.heap.size w V) => a_split f.dat V (.slice da f.dat.length dc) (hf.hB.keep hV) (fun a l c e => by cases e; exact hf.hc)
 have hle := fby_dat hty
 have hfb := hf.fb
 have hA0 : 0 ≤ at_ + ((fby f).length : Int) - (f.dat.length : Int) := by have := hf.a0; omega
 have hA1 : at_ + ((fby f).length : Int) - (f.dat.length : Int) + (f.dat.length : Int) ≤ 1152921504606846976 := by have := hf.a1; omega
 have hsp : spe (sp f.dat) = 0 → (spp (sp f.dat)).length ≤ 4096 ∧ jn (spp (sp f.dat)) = f.dat := by
  intro h
  unfold sp at h ⊢
  by_cases hb : 4194304 < f.dat.length
  ·rw [if_pos hb] at h
   exact absurd h (by decide)
  ·rw [if_neg hb] at h ⊢
   cases hr : spl f.dat.length 0 0 f.dat with
   | ok ps =>
    have q := spl_ok _ _ _ _ _ (Nat.le_refl _) (by omega) hr
    exact ⟨by show ps.length ≤ 4096; omega, q.1⟩
   | er e p =>
    exfalso
    rw [hr] at h
    exact (spl_er_b _ _ _ _ _ _ hr).1 h
 have hpl : 0 ≤ spa (sp f.dat) ∧ spa (sp f.dat) ≤ 4194304 := spa_bd f.dat
 obtain ⟨R, hR⟩ : ∃ R, lsN l m dec f.dat at_ (at_ + ((fby f).length : Int) - (f.dat.length : Int)) = R := ⟨_, rfl⟩
 rw [hR]
 unfold lsN at hR
 unfold RdR
 clear hf hty
 generalize at_ + ((fby f).length : Int) - (f.dat.length : Int) = A at *
 generalize (fby f).length = FL at *
 generalize f.no = fno at *
 generalize f.ty = fty at *
 generalize f.num = num at *
 generalize hdd : f.dat = d at *
 clear hdd f
 generalize hdl : d.length = dl at *
 generalize hspp : spp (sp d) = bss at *
 generalize spa (sp d) = pl at *
 generalize hspe : spe (sp d) = E at *
 clear hspe
 replace hspp := hide hspp
 have r0 := hp2_0 w (.cells #[.int .i64 fno, .int .i64 fty, .int .u64 (num : Int), .slice da dl dc] 78) (.cells #[.int .u64 0, .slice none 0 0, .slice none 0 0] 27)
 have r1 := hp2_1 w (.cells #[.int .i64 fno, .int .i64 fty, .int .u64 (num : Int), .slice da dl dc] 78) (.cells #[.int .u64 0, .slice none 0 0, .slice none 0 0] 27)
 have hb : Below w.heap.size w ((w.alloc (.cells #[.int .i64 fno, .int .i64 fty, .int .u64 (num : Int), .slice da dl dc] 78)).alloc (.cells #[.int .u64 0, .slice none 0 0, .slice none 0 0] 27)) := ((Below.refl _ _).alloc (Nat.le_refl _) _).alloc (by simp) _
 have hz : w.heap.size + 1 < ((w.alloc (.cells #[.int .i64 fno, .int .i64 fty, .int .u64 (num : Int), .slice da dl dc] 78)).alloc (.cells #[.int .u64 0, .slice none 0 0, .slice none 0 0] 27)).heap.size := by simp
 have infoLs : (Tryd.prog.info? 124).map (·.size) = some 3 := by kernel_rfl
 unfold ptr
 go_enter Tryd.func81, Tryd.ntmps81
 go_upto_region 1 with (fail)
 generalize (w.alloc (.cells #[.int .i64 fno, .int .i64 fty, .int .u64 (num : Int), .slice da dl dc] 78)).alloc (.cells #[.int .u64 0, .slice none 0 0, .slice none 0 0] 27) = w0 at *
 go_wp2_with (first | (refine wpList_load_want rfl 78 _ rfl w.heap.size rfl 78 #[.int .i64 fno, .int .i64 fty, .int .u64 (num : Int), .slice da dl dc] (0, 0) _ r0 Tryd.underlying78 rfl infoFi ?_) | fail)
 refine (cD w0).mono ?_
 rintro e_ w1 ⟨rfl, hb1⟩
 replace r0 := keep hb1 r0
 replace r1 := keep hb1 r1
 replace hz := Nat.lt_of_lt_of_le hz hb1.size
 replace hb := Below.after hb hb1
 have c3 := cell_of_row _ _ 3 _ _ _ r0
 have cS1 := cS w1 hb
 clear hb1 cD cS
 go_wp2_with (fail)
 refine cS1.mono ?_
 rintro e_ w2 ⟨u, us, rfl, hI, hb2⟩
 replace r1 := keep hb2 r1
 replace hz := Nat.lt_of_lt_of_le hz hb2.size
 replace hb := Below.after hb hb2
 obtain ⟨iv, hiv⟩ : ∃ iv, u = iv := ⟨_, rfl⟩
 subst hiv
 clear hb2 cS1 c3 r0
 by_cases hE : E = 0
 ·subst hE
  obtain ⟨hbn, hjn⟩ := hsp rfl
  obtain ⟨ivo, ivc, rfl⟩ : ∃ ivo ivc, u = .slice ivo bss.length ivc := by
   obtain ⟨h1, h2, _⟩ := hI
   obtain ⟨_, ⟨rfl, h0⟩ | ⟨g, cap, cur, rfl, _⟩⟩ := h1
   ·exact ⟨none, 0, by rw [← h2, h0]⟩
   ·exact ⟨_, _, by rw [h2]⟩
  obtain ⟨W2, hW2⟩ : ∃ W2, wth (bss.length : Int) (l : Int) (m : Int) = W2 := ⟨_, rfl⟩
  have cL := a_lfits (bss.length : Int) (l : Int) (m : Int) (by omega) y
  have h1' := h1.keep hb
  obtain ⟨T1, h1'⟩ := h1'
  rw [if_neg (by simp), hW2] at hR
  rw [hW2] at cL
  clear hsp hW2
  go_wp2_with (first | (refine wpList_load_want rfl 124 _ rfl g1 rfl T1 #[.int .u64 (l : Int), .int .u64 (m : Int), y] (0, 0) _ h1' Tryd.underlying124 rfl infoLs ?_) | fail)
  refine (cL w2).mono ?_
  rintro e_ w3 ⟨rfl, hb3⟩
  replace r1 := keep hb3 r1
  replace hz := Nat.lt_of_lt_of_le hz hb3.size
  replace hb := Below.after hb hb3
  replace hI := hI.keep hb3
  clear cL hb3 h1'
  by_cases hW : W2 = 0
  ·subst hW
   rw [if_neg (by simp)] at hR
   obtain ⟨T2, h2'⟩ := h2.keep hb
   have cg2 := cell_of_row _ _ 0 _ _ _ h2'
   have cA := a_decodeAll dec dv so sn sc (.slice ivo bss.length ivc) us bss _ A w3 hI hbn (by rw [hjn]; omega) (by rw [hjn]; exact ⟨hA0, by rw [hdl]; exact hA1⟩) (fun V b bv f hV => hC V b bv f (Below.after hb hV))
   replace cA := hide cA
   replace hb := hide hb
   clear hI hjn
   go_wp2_with (fail)
   refine cA.out.mono ?_
   rintro e_ w4 ⟨hG, hb4⟩
   replace r1 := keep hb4 r1
   have szb := hb.out.size
   replace hb := Below.after hb.out hb4
   clear cA h2' cg2 hb4
   rw [hR] at hG
   cases R with
   | some fl =>
    obtain ⟨q, rfl, h1_, h2_⟩ := hG
    go_wp2
    exact ⟨rfl, ⟨q, rfl, by omega, h2_⟩, hb⟩
   | none =>
    obtain ⟨v, rfl, ⟨xn, xda, xdl, xdc, xpa, xpl, xpc⟩, rfl, hvt⟩ := hG
    have hone : (#[.int .u64 (xn : Int), .slice xda xdl xdc, .slice xpa xpl xpc] : Array Value).all (·.oneCell') = true := by simp [Value.oneCell']
    have RF := hide (setRow_heap w4 (w.heap.size + 1) _ #[.int .u64 (xn : Int), .slice xda xdl xdc, .slice xpa xpl xpc] _ _ r1)
    have hwF := hide (below_setRow (g := w.heap.size + 1) hb (by omega) #[.int .u64 (xn : Int), .slice xda xdl xdc, .slice xpa xpl xpc])
    have hvF : Hid (VtM (w4.setRow (w.heap.size + 1) #[.int .u64 (xn : Int), .slice xda xdl xdc, .slice xpa xpl xpc]) (fun b => P b ∨ w.heap.size ≤ b) ⟨xn, xda, xdl, xdc, xpa, xpl, xpc⟩ (.mk 0 [] (bss.map dv))) := hide (hvt.other _ _ (fun b hb_ => ⟨by omega, .inr (by omega)⟩))
    clear hvt hb
    unfold vrv vrw
    go_wp2_with (first | (refine wpList_store_row rfl 27 _ _ rfl (w.heap.size + 1) #[.int .u64 (xn : Int), .slice xda xdl xdc, .slice xpa xpl xpc] rfl rfl 27 _ r1 infoV rfl hone ?_) | fail)
    exact bodyPost_ret (v := .agg #[.int .u64 (xn : Int), .slice xda xdl xdc, .slice xpa xpl xpc]) (results_cell_row Tryd.results81 _ _ (w.heap.size + 1) _ _ _ _ rfl RF.out Tryd.underlying27 rfl infoV) rfl ⟨⟨_, rfl, ⟨xn, xda, xdl, xdc, xpa, xpl, xpc⟩, rfl, hvF.out⟩, hwF.out⟩
  ·rw [if_pos hW] at hR
   have hd1 : (W2 == 0) = false := by simpa using hW
   have eR := hide hR.symm
   clear hR hI r1
   go_wp2_with (fail)
   refine (a_giveUp 0 at_ W2 _).mono ?_
   rintro e_ x2 ⟨⟨q, rfl, hql, hqr⟩, hbx⟩
   have szx := hb.size
   replace hb := Below.after hb hbx
   go_wp2
   rw [eR.out]
   exact ⟨rfl, ⟨q, rfl, by omega, hqr⟩, hb⟩
 ·rw [if_pos hE] at hR
  have hd1 : (E == 0) = false := by simpa using hE
  have eR := hide hR.symm
  have q1 : IntKind.wrap .i64 (A + pl) = A + pl := by rw [IntKind.wrap_i64]; omega
  clear hR hI r1 hsp
  go_wp2_with (fail)
  refine (a_giveUp 0 (A + pl) E _).mono ?_
  rintro e_ x2 ⟨⟨q, rfl, hql, hqr⟩, hbx⟩
  have szx := hb.size
  replace hb := Below.after hb hbx
  go_wp2
  rw [eR.out]
  exact ⟨rfl, ⟨q, rfl, by omega, hqr⟩, hb⟩
end Go.Proofs.YtgcpebhjehlacaaDoor

