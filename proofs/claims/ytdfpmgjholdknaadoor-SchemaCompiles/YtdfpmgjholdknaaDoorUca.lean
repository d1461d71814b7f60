import Derived.Test.YtdfpmgjholdknaaDoorUo
import Derived.Test.YtdfpmgjholdknaaDoorUz
namespace Go.Proofs.YtdfpmgjholdknaaDoor
set_option maxRecDepth 100000
open Go Go.RowKit Go.Sort
attribute [local go_sem] setCell_drewN alloc_drewN
/-- A slot made ready, of whatever kind: its cells. -/
def rdv (no wt : Int) (k1 k2 k3 : FuncId) (a1 a2 a3 : Array Value) : Array Value := #[.int .i64 no, .int .i64 wt, .func (.func k1) #[] a1, .func (.func k2) #[] a2, .func (.func k3) #[] a3]
theorem a_ready_any {t : Slt} {u : Value} (hfit : sfit t = true) (hFl : Flt t u) (w : World) (hu : nst t → ∃ so sn sc, u = .slice so sn sc)
    (hC : nst t → ∀ V, Below w.heap.size w V → Calls Tryd.prog 12 #[u] V fun e w' => ∃ v, e = .returned v ∧ (∃ xo xn xc, v = .slice xo xn xc) ∧ Below V.heap.size V w' ∧ True) :
    Calls Tryd.prog 21 #[.agg #[.int .i64 t.no, shp t u]] w fun e w' => ∃ wt k1 k2 k3 a1 a2 a3, e = .returned (.agg (rdv t.no wt k1 k2 k3 a1 a2 a3)) ∧ Below w.heap.size w w' := by
  have hc := fit_cases (show fitN t.kind (t.least : Int) (t.most : Int) t.sub.length = true from hfit)
  have key : ∀ x, shp t u = x → (Calls Tryd.prog 21 #[.agg #[.int .i64 t.no, x]] w fun e w' => ∃ wt k1 k2 k3 a1 a2 a3, e = .returned (.agg (rdv t.no wt k1 k2 k3 a1 a2 a3)) ∧ Below w.heap.size w w') → (Calls Tryd.prog 21 #[.agg #[.int .i64 t.no, shp t u]] w fun e w' => ∃ wt k1 k2 k3 a1 a2 a3, e = .returned (.agg (rdv t.no wt k1 k2 k3 a1 a2 a3)) ∧ Below w.heap.size w w') := fun x e h => by rw [e]; exact h
  rcases hc with ⟨hk, _⟩ | ⟨hk, _⟩ | ⟨hk, _⟩ | hk | ⟨hk, _⟩ | hk | hk | ⟨hk, _⟩
  · exact key _ (by unfold shp; rw [hk]; rfl) ((a_ready_num _ _ _ _ w).mono fun e w' h => ⟨_, _, _, _, _, _, _, h.1, h.2.1⟩)
  · exact key _ (by unfold shp; rw [hk]; rfl) ((a_ready_num _ _ _ _ w).mono fun e w' h => ⟨_, _, _, _, _, _, _, h.1, h.2.1⟩)
  · exact key _ (by unfold shp; rw [hk]; rfl) ((a_ready_num _ _ _ _ w).mono fun e w' h => ⟨_, _, _, _, _, _, _, h.1, h.2.1⟩)
  · exact key _ (by unfold shp; rw [hk]; rfl) ((a_ready_num _ _ _ _ w).mono fun e w' h => ⟨_, _, _, _, _, _, _, h.1, h.2.1⟩)
  · rcases hk with hk | hk
    · exact key _ (by unfold shp; rw [hk]; rfl) ((a_ready_oct _ _ _ _ w).mono fun e w' h => ⟨_, _, _, _, _, _, _, h.1, h.2.1⟩)
    · exact key _ (by unfold shp; rw [hk]; rfl) ((a_ready_oct _ _ _ _ w).mono fun e w' h => ⟨_, _, _, _, _, _, _, h.1, h.2.1⟩)
  · have hu7 := hFl hk
    subst hu7
    exact key _ (by unfold shp; rw [hk]; rfl) ((a_ready_flt _ _ w).mono fun e w' h => ⟨_, _, _, _, _, _, _, h.1, h.2.1⟩)
  · obtain ⟨so, sn, sc, rfl⟩ := hu (.inl hk)
    exact key _ (by unfold shp; rw [hk]; rfl) ((a_ready_msg (fun _ _ => True) (fun _ _ _ _ _ => trivial) _ so sn sc w (hC (.inl hk))).mono fun e w' ⟨n, x, w4, _, h1, h2, _⟩ => ⟨_, _, _, _, _, _, _, h1, h2⟩)
  · obtain ⟨so, sn, sc, rfl⟩ := hu (.inr hk)
    exact key _ (by unfold shp; rw [hk]; rfl) ((a_ready_lst (fun _ _ => True) (fun _ _ _ _ _ => trivial) t.no (t.least : Int) (t.most : Int) so sn sc w (hC (.inr hk))).mono fun e w' ⟨n, x, w4, _, h1, h2, _⟩ => ⟨_, _, _, _, _, _, _, h1, h2⟩)
theorem infoStI : ∃ i, Tryd.prog.info? 70 = some i ∧ i.zero = some (.agg #[.int .i64 0, .int .i64 0, .nilFunc, .nilFunc, .nilFunc]) ∧ i.size = 5 ∧ i.bytes = 40 := ⟨_, rfl, rfl, rfl, rfl⟩
theorem wpList_append_st {w : World} {ops : Array Oper} {rest : List Oper} {o : Oper} {a : Act} {Q : Exit → Act → World → Prop} (hgd : o.guard = none) (s x : Operand)
    (ho : o.op = .call { callee := .builtin .append, args := #[s, x], argTypes := #[42, 42] })
    (base : Nat) (v : Value) (k : Nat) (xs : List Value) (hs : a.eval s = v) (hO : w.ownsRow base 70 5 v k xs) (hk : k ≤ 100)
    (cs : List Value) (hcl : cs.length = 5) (g : Nat) (hx : a.eval x = .slice (some ⟨g, 0, none⟩) 1 1) (hnews : ∀ j y, cs[j]? = some y → w.cell? ((⟨g, 0, none⟩ : Addr).add j) = some y) (h1 : ∀ u ∈ cs, u.oneCell' = true)
    (hbase : base ≤ w.heap.size)
    (h : ∀ v' w', w'.ownsRow base 70 5 v' (k + 1) (xs ++ cs) → w.grownBy w' v.ownBlock → Nx w v v' → wpList Tryd.prog ops Q rest (a.put o.dst v') w') : wpList Tryd.prog ops Q (o :: rest) a w := by
  obtain ⟨i0, hi, hz0, hz1, hz2⟩ := infoStI
  exact wpList_plain hgd fun _ hK => wp_append_nx s x 42 ho base 70 i0 (.agg #[.int .i64 0, .int .i64 0, .nilFunc, .nilFunc, .nilFunc]) 5 40 Tryd.underlying42 hi hz0 hz1 hz2 rfl (by decide) v k xs hs hO ⟨g, 0, none⟩ 1 1 cs hx (by rw [hcl]) hnews h1 (by unfold maxLen; omega) (by omega) hbase (fun v' w' h2 h3 h4 => hK _ _ (h v' w' h2 h3 h4))
set_option maxRecDepth 100000 in
set_option maxHeartbeats 16000000 in
theorem a_compile {W : World} {S : Nat → Prop} {v : Value} {ts : List Slt} (h : MsgL W S v ts) : gd ts → ∀ w, Below W.heap.size W w → Calls Tryd.prog 12 #[v] w fun e w' => ∃ v', e = .returned v' ∧ (∃ xo xn xc, v' = .slice xo xn xc) ∧ Below w.heap.size w w' ∧ True := by
  induction h with
  | mk ao cap ts us hl hc h hs ih =>
    intro hgd w hw
    go_enter Tryd.func12, Tryd.ntmps12
    go_wp2_with (fail)
    go_loopw [3, 8] (fun out i wr => ∃ (k : Nat) (xs : List Value), k ≤ ts.length ∧ i = .int .i64 k ∧ Below w.heap.size w wr ∧ wr.ownsRow w.heap.size 70 5 out k xs) (fun _ i _ => ts.length - (intOf i).toNat)
    case atStart => exact ⟨0, [], by omega, rfl, Below.refl _ _, ⟨rfl, .inl ⟨rfl, rfl⟩⟩⟩
    case round =>
      obtain ⟨k, xs, hk, rfl, hb, hO⟩ := hrel
      obtain ⟨mo, mc, rfl⟩ := own_slice hO
      have hww := Below.after hw hb
      by_cases hlt : k < ts.length
      · have hd : decide ((k : Int) < (ts.length : Int)) = true := by simp; omega
        have hk1 : 0 ≤ (k : Int) ∧ (k : Int) < (ts.length : Int) := by omega
        obtain ⟨b, off, hao, hbl, _, hra, hok, hFl⟩ := h k hlt
        obtain ⟨_, hfit, hsubg⟩ := gd_at ts k hlt hgd
        have hform : nst (gs ts k) → ∃ so sn sc, gvs us k = .slice so sn sc := fun hn => (hs k hlt hn).form.elim fun _ q => q.elim fun _ q => ⟨_, _, _, q⟩
        have hih := fun hn => ih k hlt hn (hsubg hn)
        subst hao
        have hrw := rangeS_keep2 hra hww hbl
        have y0 : wr.cell? ⟨b, off + k * 2, none⟩ = _ := hrw 0 _ rfl
        have y1 : wr.cell? ⟨b, off + k * 2 + 1, none⟩ = _ := hrw 1 _ rfl
        have cR := fun V hV => a_ready_any (t := gs ts k) hfit hFl V hform (fun hn V' hV' => hih hn V' (Below.after (Below.after hww hV) hV'))
        obtain ⟨T, c, hsh⟩ := shp_iface (gs ts k) (gvs us k)
        rw [hsh] at y1 cR
        generalize (gs ts k).no = no at *
        clear h hs ih hra hrw hFl hfit hsubg hform hih hsh hok
        have hba : Below wr.heap.size wr (wr.alloc (.cells #[.int .i64 no, .iface T c] 63)) := (Below.refl _ _).alloc (Nat.le_refl _) _
        have cR1 := cR _ hba
        have A1 := hide hba
        have A2 := hide hb
        have A3 := hide hO
        clear cR hba hb hO hww
        go_wp2_with (fail)
        generalize wr.alloc (.cells #[.int .i64 no, .iface T c] 63) = w1 at *
        refine cR1.mono ?_
        rintro e_ w2 ⟨wt, k1, k2, k3, a1, a2, a3, rfl, hb2⟩
        clear cR1
        have hbb := Below.after A1.out hb2
        have hB := Below.after A2.out hbb
        have hO2 := own_but (w' := w2) A3.out fun q hq => hbb.block q (own_lt A3.out q hq).2
        unfold rdv
        have cN1 := hp1_0 w2 (.cells (rdv no wt k1 k2 k3 a1 a2 a3) 70)
        have hnc : ∀ j y, (rdv no wt k1 k2 k3 a1 a2 a3).toList[j]? = some y → (w2.alloc (.cells (rdv no wt k1 k2 k3 a1 a2 a3) 70)).cell? ((⟨w2.heap.size, 0, none⟩ : Addr).add j) = some y := fun j y hy => by
          rw [add_off, cell_of_row _ _ _ _ _ _ cN1]
          simpa using hy
        have hba2 : Below w2.heap.size w2 (w2.alloc (.cells (rdv no wt k1 k2 k3 a1 a2 a3) 70)) := (Below.refl _ _).alloc (Nat.le_refl _) _
        have hO3 := own_but (w' := w2.alloc (.cells (rdv no wt k1 k2 k3 a1 a2 a3) 70)) hO2 fun q hq => hba2.block q (own_lt hO2 q hq).2
        have hone : ∀ x ∈ (rdv no wt k1 k2 k3 a1 a2 a3).toList, x.oneCell' = true := fun x hx => by
          simp [rdv] at hx
          rcases hx with rfl | rfl | rfl | rfl | rfl <;> rfl
        have hsz2 := hB.size
        unfold rdv at hnc hO3 hba2 hone
        have A4 := hide hB
        have A5 := hide hba2
        have A6 := hide hO2
        clear hB hba2 hO2 cN1 A1 A2 A3 hb2 hbb y0 y1
        go_wp2_with (first | (at_builtin; refine wpList_append_st rfl (.tmp 12) (.tmp 15) rfl w.heap.size _ k _ rfl hO3 (by omega) _ rfl w2.heap.size rfl hnc hone (by rw [size_alloc1]; omega) ?_) | fail)
        intro v' w3 h1 h2 h3
        have hB3 : Below w.heap.size w w3 := by
          refine (A4.out.trans (A5.out.mono hsz2)).grown h2 (by rw [size_alloc1]; omega) (fun q hq => ?_)
          exact (own_lt A6.out q hq).1
        obtain ⟨no', co', hv'⟩ := own_slice h1
        subst hv'
        clear h2 h3 hO3 hnc hone A4 A5 A6
        go_wp2_with (fail)
        refine ⟨⟨k + 1, _, by omega, by go_num, hB3, h1⟩, ?_⟩
        simp [intOf]; omega
      · have hd : decide ((k : Int) < (ts.length : Int)) = false := by simp; omega
        clear h hs ih
        go_wp2_with (fail)
        go_ret
        exact ⟨_, rfl, ⟨_, _, _, rfl⟩, hb, trivial⟩
end Go.Proofs.YtdfpmgjholdknaaDoor
