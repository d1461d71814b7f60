import Derived.Test.YtdfpmgjholdknaaDoorUp
namespace Go.Proofs.YtdfpmgjholdknaaDoor
set_option maxRecDepth 100000
open Go Go.RowKit Go.Sort
attribute [local go_sem] setCell_drewN alloc_drewN
/-- A schema in memory, in blocks of that kind. -/
inductive SlL (W : World) (S : Nat → Prop) : Value → List Slt → Prop
  | mk (ao : Option Addr) (cap : Nat) (ts : List Slt) (us : List Value) (hl : ts.length ≤ 2932031007317) (hc : ts.length ≤ cap) (hn : ao = none → cap = 0)
      (h : ∀ i, i < ts.length → ∃ b off, ao = some ⟨b, off, none⟩ ∧ b < W.heap.size ∧ S b ∧ W.rangeAt b (off + i * 5) (srow (gs ts i) (gvs us i)) ∧ Sok (gs ts i))
      (hs : ∀ i, i < ts.length → SlL W S (gvs us i) (gs ts i).sub) : SlL W S (.slice ao ts.length cap) ts
theorem SlL.slo {W : World} {S : Nat → Prop} {v : Value} {ts : List Slt} (h : SlL W S v ts) : Slo W v ts := by
  induction h with
  | mk ao cap ts us hl hc hn h hs ih =>
    refine .mk ao cap ts us hl hc hn (fun i hi => ?_) ih
    obtain ⟨b, off, h1, h2, _, h4, h5⟩ := h i hi
    exact ⟨b, off, h1, h2, h4, h5⟩
theorem SlL.keep {W V : World} {S T : Nat → Prop} {v : Value} {ts : List Slt} (h : SlL W S v ts) (hs : W.heap.size ≤ V.heap.size) (hb : ∀ b, b < W.heap.size → S b → V.heap[b]? = W.heap[b]? ∧ T b) : SlL V T v ts := by
  induction h with
  | mk ao cap ts us hl hc hn h _ ih =>
    refine .mk ao cap ts us hl hc hn (fun i hi => ?_) ih
    obtain ⟨b, off, h1, h2, h3, h4, h5⟩ := h i hi
    exact ⟨b, off, h1, by omega, (hb b h2 h3).2, range_same h4 (hb b h2 h3).1, h5⟩
theorem SlL.form {W : World} {S : Nat → Prop} {v : Value} {ts : List Slt} (h : SlL W S v ts) : ∃ ao cap, v = .slice ao ts.length cap := by
  cases h
  exact ⟨_, _, rfl⟩
def scl : List Slt → List Value → List Value
  | t :: ts, u :: us => srow t u ++ scl ts us
  | _, _ => []
theorem scl_snoc : ∀ (ts : List Slt) (us : List Value) (t : Slt) (u : Value), ts.length = us.length → scl (ts ++ [t]) (us ++ [u]) = scl ts us ++ srow t u
  | [], [], _, _, _ => by simp [scl]
  | [], _ :: _, _, _, h => by simp at h
  | _ :: _, [], _, _, h => by simp at h
  | t :: ts, u :: us, t', u', h => by
    have := scl_snoc ts us t' u' (by simpa using h)
    simp only [List.cons_append, scl, this, List.append_assoc]
theorem scl_at : ∀ (ts : List Slt) (us : List Value) (i c : Nat), ts.length = us.length → i < ts.length → c < 5 → (scl ts us)[i * 5 + c]? = (srow (gs ts i) (gvs us i))[c]?
  | [], _, _, _, _, h, _ => by simp at h
  | _ :: _, [], _, _, h, _, _ => by simp at h
  | t :: ts, u :: us, 0, c, _, _, hc => by
    rw [scl, List.getElem?_append_left (by show 0 * 5 + c < 5; omega), Nat.zero_mul, Nat.zero_add]; rfl
  | t :: ts, u :: us, i + 1, c, h, hi, hc => by
    have := scl_at ts us i c (by simpa using h) (by simpa using hi) hc
    rw [scl, List.getElem?_append_right (by show 5 ≤ (i + 1) * 5 + c; omega), show (i + 1) * 5 + c - (srow t u).length = i * 5 + c by show (i + 1) * 5 + c - 5 = _; omega]
    exact this
theorem sll_of {w : World} {base : Nat} {v : Value} {ts : List Slt} {us : List Value} (hO : w.ownsRow base 55 5 v ts.length (scl ts us)) (hl : ts.length = us.length) (h16 : ts.length ≤ 10000) (hok : ∀ i, i < ts.length → Sok (gs ts i)) (hs : ∀ i, i < ts.length → SlL w (fun b => base ≤ b) (gvs us i) (gs ts i).sub) : SlL w (fun b => base ≤ b) v ts := by
  rcases hO.2 with ⟨rfl, h0⟩ | ⟨g, cap, cur, rfl, h1, h2, h3, _⟩
  · have e : ts = [] := List.length_eq_zero_iff.1 h0
    subst e
    exact .mk none 0 [] us (by simp) (by simp) (fun _ => rfl) (fun i hi => by simp at hi) (fun i hi => by simp at hi)
  · refine .mk (some ⟨g, 0, none⟩) cap ts us (by omega) h3 (fun e => by cases e) (fun i hi => ⟨g, 0, rfl, (Array.getElem?_eq_some_iff.1 h2).1, h1, ?_, hok i hi⟩) hs
    have hc : ∀ j u, (scl ts us)[j]? = some u → w.cell? ((⟨g, 0, none⟩ : Addr).add j) = some u := hO.cells (g := g) rfl
    intro j x hx
    have hj : j < 5 := (List.getElem?_eq_some_iff.1 hx).1
    have := hc (i * 5 + j) x (by rw [scl_at ts us i j hl hi hj]; exact hx)
    rw [add_off] at this
    rw [Nat.zero_add]
    exact this
theorem wpList_append_sl {w : World} {ops : Array Oper} {rest : List Oper} {o : Oper} {a : Act} {Q : Exit → Act → World → Prop} (hgd : o.guard = none) (s x : Operand)
    (ho : o.op = .call { callee := .builtin .append, args := #[s, x], argTypes := #[22, 22] })
    (base : Nat) (v : Value) (k : Nat) (xs : List Value) (hs : a.eval s = v) (hO : w.ownsRow base 55 5 v k xs) (hk : k ≤ 10000)
    (cs : List Value) (hcl : cs.length = 5) (g : Nat) (hx : a.eval x = .slice (some ⟨g, 0, none⟩) 1 1) (hnews : ∀ j y, cs[j]? = some y → w.cell? ((⟨g, 0, none⟩ : Addr).add j) = some y) (h1 : ∀ u ∈ cs, u.oneCell' = true)
    (hbase : base ≤ w.heap.size)
    (h : ∀ v' w', w'.ownsRow base 55 5 v' (k + 1) (xs ++ cs) → w.grownBy w' v.ownBlock → Nx w v v' → wpList Tryd.prog ops Q rest (a.put o.dst v') w') : wpList Tryd.prog ops Q (o :: rest) a w := by
  obtain ⟨i0, hi, hz0, hz1, hz2⟩ := infoSl
  exact wpList_plain hgd fun _ hK => wp_append_nx s x 22 ho base 55 i0 _ 5 56 Tryd.underlying22 hi hz0 hz1 hz2 rfl (by decide) v k xs hs hO ⟨g, 0, none⟩ 1 1 cs hx (by rw [hcl]) hnews h1 (by unfold maxLen; omega) (by omega) hbase (fun v' w' h2 h3 h4 => hK _ _ (h v' w' h2 h3 h4))
set_option maxRecDepth 100000 in
set_option maxHeartbeats 16000000 in
theorem r_twin {W : World} {v : Value} {ts : List Slt} (h : Slo W v ts) : ∀ (l : Int), l ≤ 10000 → 0 ≤ slL ts l → ∀ (w : World), Below W.heap.size W w → Calls Tryd.prog 23 #[v] w fun e w' => ∃ v', e = .returned v' ∧ Below w.heap.size w w' ∧ SlL w' (fun b => w.heap.size ≤ b) v' ts := by
  induction h with
  | mk ao cap ts us hl hc hn h hs ih =>
    intro l hl1 hl2 w hw
    have hlen := slL_len ts l hl2
    have h4 : ts.length ≤ 10000 := by omega
    go_enter Tryd.func23, Tryd.ntmps23
    go_wp2_with (fail)
    go_loopw [3, 4] (fun out i wr => ∃ (k : Nat) (vs : List Value), k ≤ ts.length ∧ i = .int .i64 k ∧ Below w.heap.size w wr ∧ vs.length = k ∧ wr.ownsRow w.heap.size 55 5 out k (scl (ts.take k) vs) ∧ ∀ i, i < k → SlL wr (fun b => w.heap.size ≤ b ∧ out.ownBlock ≠ some b) (gvs vs i) (gs ts i).sub) (fun _ i _ => ts.length - (intOf i).toNat)
    case atStart => exact ⟨0, [], by omega, rfl, Below.refl _ _, rfl, ⟨rfl, .inl ⟨rfl, rfl⟩⟩, fun i hi => by omega⟩
    case round =>
      obtain ⟨k, vs, hk, rfl, hb, hvl, hO, hN⟩ := hrel
      obtain ⟨mo, mc, rfl⟩ := own_slice hO
      have hww := Below.after hw hb
      by_cases hlt : k < ts.length
      · have hd : decide ((k : Int) < (ts.length : Int)) = true := by simp; omega
        have hk1 : 0 ≤ (k : Int) ∧ (k : Int) < (ts.length : Int) := by omega
        obtain ⟨b, off, hao, hbl, hra, hok⟩ := h k hlt
        have hSl := hs k hlt
        obtain ⟨l', hl3, hl4⟩ := slL_at ts l k hl2 hlt
        have hih := ih k hlt l' (by omega) hl4
        subst hao
        have hgs : ts.take (k + 1) = ts.take k ++ [gs ts k] := by
          rw [List.take_succ_eq_append_getElem hlt, gs, List.getD_eq_getElem?_getD, List.getElem?_eq_getElem hlt]; rfl
        obtain ⟨ua, uc, hue⟩ := hSl.form
        have hrw := rangeS_keep2 hra hww hbl
        generalize hgt : gs ts k = t at *
        replace hgt := hide hgt
        generalize gvs us k = u at *
        subst hue
        have b0 := hrw 0 _ rfl
        have b1 := hrw 1 _ rfl
        have b2 := hrw 2 _ rfl
        have b3 := hrw 3 _ rfl
        have b4 := hrw 4 _ rfl
        rw [Nat.add_zero] at b0
        have r1 := hp1_0 wr (.cells #[.int .i64 t.no, .int .i64 t.kind, .int .u64 (t.least : Int), .int .u64 (t.most : Int), .slice ua t.sub.length uc] 55)
        have hba : Below wr.heap.size wr (wr.alloc (.cells #[.int .i64 t.no, .int .i64 t.kind, .int .u64 (t.least : Int), .int .u64 (t.most : Int), .slice ua t.sub.length uc] 55)) := (Below.refl _ _).alloc (Nat.le_refl _) _
        have hs1 : (wr.alloc (.cells #[.int .i64 t.no, .int .i64 t.kind, .int .u64 (t.least : Int), .int .u64 (t.most : Int), .slice ua t.sub.length uc] 55)).heap.size = wr.heap.size + 1 := size_alloc1 _ _
        have cT := hih (wr.alloc (.cells #[.int .i64 t.no, .int .i64 t.kind, .int .u64 (t.least : Int), .int .u64 (t.most : Int), .slice ua t.sub.length uc] 55)) (Below.after hww hba)
        have A1 := hide r1
        have A2 := hide hba
        have A3 := hide hs1
        have A4 := hide hO
        have A5 := hide hN
        have A6 := hide hb
        clear h hs ih hra hrw r1 hba hs1 hO hN hb hww hih hSl
        go_wp2_with (fail)
        generalize (wr.alloc (.cells #[.int .i64 t.no, .int .i64 t.kind, .int .u64 (t.least : Int), .int .u64 (t.most : Int), .slice ua t.sub.length uc] 55)) = w1 at *
        refine cT.mono ?_
        rintro e_ w2 ⟨x, rfl, hb2, hx⟩
        clear cT b0 b1 b2 b3 b4
        obtain ⟨xa, xc, rfl⟩ := hx.form
        have hs1 := A3.out
        have r2 := keep hb2 A1.out
        have n4 : w2.cell? ⟨wr.heap.size, 4, none⟩ = some (.slice ua t.sub.length uc) := cell_of_row _ _ _ _ _ _ r2
        have n0 : w2.cell? ⟨wr.heap.size, 0, none⟩ = some (.int .i64 t.no) := cell_of_row _ _ _ _ _ _ r2
        have n1 : w2.cell? ⟨wr.heap.size, 1, none⟩ = some (.int .i64 t.kind) := cell_of_row _ _ _ _ _ _ r2
        have n2 : w2.cell? ⟨wr.heap.size, 2, none⟩ = some (.int .u64 (t.least : Int)) := cell_of_row _ _ _ _ _ _ r2
        have n3 : w2.cell? ⟨wr.heap.size, 3, none⟩ = some (.int .u64 (t.most : Int)) := cell_of_row _ _ _ _ _ _ r2
        have z4 : w2.frozen? ⟨wr.heap.size, 4, none⟩ = false := by simp [World.frozen?, r2]
        have hbb := Below.after A2.out hb2
        have hs2 := hb2.size
        have hsS : (w2.setCell ⟨wr.heap.size, 4, none⟩ (.slice xa t.sub.length xc)).heap.size = w2.heap.size := by simp
        have hb3 : Below wr.heap.size wr (w2.setCell ⟨wr.heap.size, 4, none⟩ (.slice xa t.sub.length xc)) := hbb.setCell (Nat.le_refl _) _
        have hB3 := Below.after A6.out hb3
        have hO3 := own_but (w' := (w2.setCell ⟨wr.heap.size, 4, none⟩ (.slice xa t.sub.length xc))) A4.out fun q hq => hb3.block q (own_lt A4.out q hq).2
        have hN3 : ∀ i, i < k → SlL (w2.setCell ⟨wr.heap.size, 4, none⟩ (.slice xa t.sub.length xc)) (fun b => w.heap.size ≤ b ∧ (Value.slice mo k mc).ownBlock ≠ some b ∧ b < (w2.setCell ⟨wr.heap.size, 4, none⟩ (.slice xa t.sub.length xc)).heap.size) (gvs vs i) (gs ts i).sub := fun i hi => (A5.out i hi).keep hb3.size fun q h1 h2 => ⟨hb3.block q h1, h2.1, h2.2, by omega⟩
        have hown := own_lt A4.out
        have hwr := A6.out.size
        have hx3 : SlL (w2.setCell ⟨wr.heap.size, 4, none⟩ (.slice xa t.sub.length xc)) (fun b => w.heap.size ≤ b ∧ (Value.slice mo k mc).ownBlock ≠ some b ∧ b < (w2.setCell ⟨wr.heap.size, 4, none⟩ (.slice xa t.sub.length xc)).heap.size) (.slice xa t.sub.length xc) t.sub := hx.keep (by omega) fun q h1 h2 => ⟨heap_setCell_other _ _ q _ (by show q ≠ wr.heap.size; omega), by omega, fun e => by have := (hown q e).2; omega, by omega⟩
        have hsz3 : w.heap.size ≤ (w2.setCell ⟨wr.heap.size, 4, none⟩ (.slice xa t.sub.length xc)).heap.size := hB3.size
        have A7 := hide hO3
        have A8 := hide hN3
        have A9 := hide hx3
        have AA := hide hB3
        have AB := hide hsz3
        have AC := hide hsS
        clear hO3 hN3 hx3 hB3 hsz3 hb3 hbb hs2 hsS hb2 hx r2 A1 A2 A3 A4 A5 A6 hs1 hown hwr
        go_wp2_with (at_builtin; suffices h9 : True ∧ _ from h9.2)
        refine ⟨trivial, ?_⟩
        generalize (w2.setCell ⟨wr.heap.size, 4, none⟩ (.slice xa t.sub.length xc)) = w3 at *
        clear n0 n1 n2 n3 n4 z4
        have cN1 := hp1_0 w3 (.cells #[.int .i64 t.no, .int .i64 t.kind, .int .u64 (t.least : Int), .int .u64 (t.most : Int), .slice xa t.sub.length xc] 55)
        have hnc : ∀ j y, [.int .i64 t.no, .int .i64 t.kind, .int .u64 (t.least : Int), .int .u64 (t.most : Int), .slice xa t.sub.length xc][j]? = some y → (w3.alloc (.cells #[.int .i64 t.no, .int .i64 t.kind, .int .u64 (t.least : Int), .int .u64 (t.most : Int), .slice xa t.sub.length xc] 55)).cell? ((⟨w2.heap.size, 0, none⟩ : Addr).add j) = some y := fun j y hy => by
          rw [add_off, ← AC.out, cell_of_row _ _ _ _ _ _ cN1]
          simpa using hy
        have hba2 : Below w3.heap.size w3 (w3.alloc (.cells #[.int .i64 t.no, .int .i64 t.kind, .int .u64 (t.least : Int), .int .u64 (t.most : Int), .slice xa t.sub.length xc] 55)) := (Below.refl _ _).alloc (Nat.le_refl _) _
        have hO4 := own_but (w' := w3.alloc (.cells #[.int .i64 t.no, .int .i64 t.kind, .int .u64 (t.least : Int), .int .u64 (t.most : Int), .slice xa t.sub.length xc] 55)) A7.out fun q hq => hba2.block q (own_lt A7.out q hq).2
        have hone : ∀ x ∈ ([.int .i64 t.no, .int .i64 t.kind, .int .u64 (t.least : Int), .int .u64 (t.most : Int), .slice xa t.sub.length xc] : List Value), x.oneCell' = true := fun x hx => by
          simp at hx
          rcases hx with rfl | rfl | rfl | rfl | rfl <;> rfl
        have hwS := AB.out
        refine wpList_append_sl rfl (.tmp 20) (.tmp 22) rfl w.heap.size _ k _ rfl hO4 (by omega) [.int .i64 t.no, .int .i64 t.kind, .int .u64 (t.least : Int), .int .u64 (t.most : Int), .slice xa t.sub.length xc] rfl w2.heap.size rfl hnc hone (by rw [size_alloc1]; omega) ?_
        intro v' w4 h1 h2 h3
        have hsA : (w3.alloc (.cells #[.int .i64 t.no, .int .i64 t.kind, .int .u64 (t.least : Int), .int .u64 (t.most : Int), .slice xa t.sub.length xc] 55)).heap.size = w3.heap.size + 1 := size_alloc1 _ _
        have hown := own_lt A7.out
        have hB4 : Below w.heap.size w w4 := (AA.out.trans (hba2.mono hwS)).grown h2 (by omega) (fun q hq => (hown q hq).1)
        have hs34 : w3.heap.size ≤ w4.heap.size := Nat.le_trans hba2.size h2.size
        have hS4 : ∀ q, q < w3.heap.size → (w.heap.size ≤ q ∧ (Value.slice mo k mc).ownBlock ≠ some q ∧ q < w3.heap.size) → w4.heap[q]? = w3.heap[q]? ∧ (w.heap.size ≤ q ∧ v'.ownBlock ≠ some q) := fun q h4 h5 =>
          ⟨(h2.block q (by omega) (fun e => h5.2.1 e.symm)).trans (hba2.block q h4), h5.1, h3.ne (by omega) h5.2.1⟩
        have hN4 : ∀ i, i < k + 1 → SlL w4 (fun b => w.heap.size ≤ b ∧ v'.ownBlock ≠ some b) (gvs (vs ++ [.slice xa t.sub.length xc]) i) (gs ts i).sub := fun i hi => by
          rcases Nat.lt_or_ge i k with h6 | h6
          · rw [gvs_low _ _ _ (by omega)]
            exact (A8.out i h6).keep hs34 hS4
          · have h7 : i = k := by omega
            subst h7
            rw [gvs_top _ _ _ hvl, hgt.out]
            exact A9.out.keep hs34 hS4
        have hO5 : w4.ownsRow w.heap.size 55 5 v' (k + 1) (scl (ts.take (k + 1)) (vs ++ [.slice xa t.sub.length xc])) := by
          rw [hgs, scl_snoc _ _ _ _ (by rw [List.length_take]; omega)]
          exact h1
        obtain ⟨no', co', hv'⟩ := own_slice h1
        subst hv'
        clear h1 h2 h3 hO4 hba2 hnc cN1 hS4 hown hone A7 A8 A9 AA AB hgs
        go_wp2_with (fail)
        refine ⟨⟨k + 1, vs ++ [.slice xa t.sub.length xc], by omega, by go_num, hB4, by simp; omega, hO5, hN4⟩, ?_⟩
        simp [intOf]; omega
      · have hd : decide ((k : Int) < (ts.length : Int)) = false := by simp; omega
        have hkl : k = ts.length := by omega
        subst hkl
        rw [List.take_length] at hO
        have hm := sll_of hO hvl.symm h4 (fun i hi => (h i hi).elim fun _ q => q.elim fun _ q => q.2.2.2) (fun i hi => (hN i hi).keep (Nat.le_refl _) fun b _ hb => ⟨rfl, hb.1⟩)
        clear h hs ih hN hvl hO
        go_wp2_with (fail)
        go_ret
        exact ⟨_, rfl, hb, hm⟩
end Go.Proofs.YtdfpmgjholdknaaDoor
