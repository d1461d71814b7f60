import Derived.Test.YtejcggjmbjmoeaaGreatDoorProg
import Derived.WalkKit
import Derived.WalkSpells
import Derived.WalkLawsBesides
import Derived.Lib.QuietBelow
import Derived.Laws.BitsAllLaws
import Derived.BigQuiet
import Derived.WalkMore
import Derived.Deep.MidRow
import Derived.Deep.DeepAppendRoom
import Derived.Test.YtejcggjmbjmoeaaGreatDoorQcOpen
import Derived.Test.YtejcggjmbjmoeaaGreatDoorQcUm
import Derived.Test.YtejcggjmbjmoeaaGreatDoorQcUc
import Derived.Laws.EntriesVeiled
namespace Go.Proofs.YtejcggjmbjmoeaaGreatDoor
set_option maxRecDepth 100000
open Go Go.RowKit Go.Sort
attribute [local go_sem] setCell_drewN alloc_drewN
theorem infoPl : ∃ i, Tryz.prog.info? 138 = some i ∧ i.zero = some (.agg #[.int .i64 0, .nilIface]) ∧ i.size = 2 ∧ i.bytes = 24 := ⟨_, rfl, rfl, rfl, rfl⟩
def pc : List Slt → List Value → List Value
 | t :: ts, u :: us => .int .i64 t.no :: shp t u :: pc ts us
 | _, _ => []
theorem pc_snoc : ∀ (ts : List Slt) (us : List Value) (t : Slt) (u : Value), ts.length = us.length → pc (ts ++ [t]) (us ++ [u]) = pc ts us ++ [.int .i64 t.no, shp t u]
 | [], [], _, _, _ => rfl
 | [], _ :: _, _, _, h => by simp at h
 | _ :: _, [], _, _, h => by simp at h
 | t :: ts, u :: us, t', u', h => by
  have := pc_snoc ts us t' u' (by simpa using h)
  simp only [List.cons_append, pc, this]
theorem pc_at : ∀ (ts : List Slt) (us : List Value) (i : Nat), ts.length = us.length → i < ts.length → (pc ts us)[i * 2]? = some (.int .i64 (gs ts i).no) ∧ (pc ts us)[i * 2 + 1]? = some (shp (gs ts i) (gvs us i))
 | [], _, _, _, h => by simp at h
 | _ :: _, [], _, h, _ => by simp at h
 | t :: ts, u :: us, 0, _, _ => ⟨rfl, rfl⟩
 | t :: ts, u :: us, i + 1, h, hi => by
  have := pc_at ts us i (by simpa using h) (by simpa using hi)
  rw [pc, show (i + 1) * 2 = i * 2 + 1 + 1 by omega]
  simp only [List.getElem?_cons_succ]
  exact this
theorem gvs_low (vs : List Value) (x : Value) (i : Nat) (h : i < vs.length) : gvs (vs ++ [x]) i = gvs vs i := by
 unfold gvs
 rw [List.getD_eq_getElem?_getD, List.getD_eq_getElem?_getD, List.getElem?_append_left h]
theorem gvs_top (vs : List Value) (x : Value) (i : Nat) (h : vs.length = i) : gvs (vs ++ [x]) i = x := by
 subst h
 unfold gvs
 rw [List.getD_eq_getElem?_getD, List.getElem?_append_right (Nat.le_refl _), Nat.sub_self]
 rfl
theorem shp_iface (t : Slt) (u : Value) : ∃ T c, shp t u = .iface T c := by
 unfold shp
 repeat' split
 all_goals exact ⟨_, _, rfl⟩
theorem own_but {w w' : World} {base size n : Nat} {e : TypeId} {v : Value} {xs : List Value} (h : w.ownsRow base e size v n xs) (hb : ∀ k, v.ownBlock = some k → w'.heap[k]? = w.heap[k]?) : w'.ownsRow base e size v n xs := by
 refine ⟨h.1, ?_⟩
 rcases h.2 with x | ⟨g, cap, cur, rfl, h1, h2, h3⟩
 ·exact .inl x
 ·exact .inr ⟨g, cap, cur, rfl, h1, (hb g rfl).trans h2, h3⟩
theorem add_off (g j : Nat) : (⟨g, 0, none⟩ : Addr).add j = ⟨g, j, none⟩ := by
 unfold Addr.add
 split <;> simp_all
theorem own_lt {w : World} {base size n : Nat} {e : TypeId} {v : Value} {xs : List Value} (h : w.ownsRow base e size v n xs) : ∀ k, v.ownBlock = some k → base ≤ k ∧ k < w.heap.size := by
 intro k hk
 rcases h.2 with ⟨rfl, _⟩ | ⟨g, cap, cur, rfl, h1, h2, h3⟩
 ·cases hk
 ·cases hk; exact ⟨h1, (Array.getElem?_eq_some_iff.1 h2).1⟩
theorem own_slice {w : World} {base size n : Nat} {e : TypeId} {v : Value} {xs : List Value} (h : w.ownsRow base e size v n xs) : ∃ ao cap, v = .slice ao n cap := by
 rcases h.2 with ⟨rfl, rfl⟩ | ⟨g, cap, cur, rfl, h1, h2, h3⟩
 ·exact ⟨_, _, rfl⟩
 ·exact ⟨_, _, rfl⟩
theorem msg_of {w : World} {base : Nat} {v : Value} {ts : List Slt} {us : List Value} (hO : w.ownsRow base 138 2 v ts.length (pc ts us)) (hl : ts.length = us.length) (h16 : ts.length ≤ 16) (hok : ∀ i, i < ts.length → Sok (gs ts i)) (hfl : ∀ i, i < ts.length → Flt (gs ts i) (gvs us i)) (hs : ∀ i, i < ts.length → nst (gs ts i) → MsgL w (fun b => base ≤ b) (gvs us i) (gs ts i).sub) : MsgL w (fun b => base ≤ b) v ts := by
 rcases hO.2 with ⟨rfl, h0⟩ | ⟨g, cap, cur, rfl, h1, h2, h3, _⟩
 ·have e : ts = [] := List.length_eq_zero_iff.1 h0
  subst e
  exact .mk none 0 [] us (by simp) (by simp) (fun i hi => by simp at hi) (fun i hi => by simp at hi)
 ·refine .mk (some ⟨g, 0, none⟩) cap ts us h16 h3 (fun i hi => ⟨g, 0, rfl, (Array.getElem?_eq_some_iff.1 h2).1, h1, ?_, hok i hi, hfl i hi⟩) hs
  have hc : ∀ j u, (pc ts us)[j]? = some u → w.cell? ((⟨g, 0, none⟩ : Addr).add j) = some u := hO.cells (g := g) rfl
  obtain ⟨p1, p2⟩ := pc_at ts us i hl hi
  intro j x hx
  have hj : j = 0 ∨ j = 1 := by
   have := (List.getElem?_eq_some_iff.1 hx).1
   simp at this; omega
  rcases hj with rfl | rfl
  ·cases hx
   have := hc _ _ p1
   rw [add_off] at this
   rw [Nat.add_zero, Nat.zero_add]
   exact this
  ·cases hx
   have := hc _ _ p2
   rw [add_off] at this
   rw [Nat.zero_add]
   exact this
theorem wpList_append_pl {w : World} {ops : Array Oper} {rest : List Oper} {o : Oper} {a : Act} {Q : Exit → Act → World → Prop} (hgd : o.guard = none) (s x : Operand)
 (ho : o.op = .call { callee := .builtin .append, args := #[s, x], argTypes := #[90, 90] })
 (base : Nat) (v : Value) (k : Nat) (xs : List Value) (hs : a.eval s = v) (hO : w.ownsRow base 138 2 v k xs) (hk : k ≤ 100)
 (c0 c1 : Value) (g : Nat) (hx : a.eval x = .slice (some ⟨g, 0, none⟩) 1 1) (hnews : ∀ j y, [c0, c1][j]? = some y → w.cell? ((⟨g, 0, none⟩ : Addr).add j) = some y) (h0 : c0.oneCell' = true) (h1 : c1.oneCell' = true)
 (hbase : base ≤ w.heap.size)
 (h : ∀ v' w', w'.ownsRow base 138 2 v' (k + 1) (xs ++ [c0, c1]) → w.grownBy w' v.ownBlock → Nx w v v' → wpList Tryz.prog ops Q rest (a.put o.dst v') w') : wpList Tryz.prog ops Q (o :: rest) a w := by
 obtain ⟨i0, hi, hz0, hz1, hz2⟩ := infoPl
 refine wpList_plain hgd fun _ hK => wp_append_nx s x 90 ho base 138 i0 (.agg #[.int .i64 0, .nilIface]) 2 24 Tryz.underlying90 hi hz0 hz1 hz2 rfl (by decide) v k xs hs hO ⟨g, 0, none⟩ 1 1 [c0, c1] hx rfl hnews (fun u hu => ?_) (by unfold maxLen; omega) (by omega) hbase (fun v' w' h2 h3 h4 => hK _ _ (h v' w' h2 h3 h4))
 simp at hu
 rcases hu with rfl | rfl
 ·exact h0
 ·exact h1
theorem wpList_load_slo {ops : Array Oper} {rest : List Oper} {o : Oper} {a : Act} {w : World} {Q : Exit → Act → World → Prop} (hw : Region.wanted o (yielded ops a.tmps) = true) (x : Operand) (ho : o.op = .load 88 x)
 (g off : Nat) (hx : a.eval x = .pointer (some ⟨g, off, none⟩)) (c0 c1 c2 c3 c4 : Value) (hr : w.rangeAt g off [c0, c1, c2, c3, c4])
 (h : wpList Tryz.prog ops Q rest (a.put o.dst (.agg #[c0, c1, c2, c3, c4])) w) : wpList Tryz.prog ops Q (o :: rest) a w :=
 BigFrame.wpList_want hw fun _ hK => wp_load_mid 88 x ho g off hx [c0, c1, c2, c3, c4] _ hr Tryz.underlying88 rfl infoS (hK _ _ h)
set_option maxRecDepth 100000 in
set_option maxHeartbeats 16000000 in
theorem a_message {W : World} {v : Value} {ts : List Slt} (h : Slo W v ts) : MsgC W v ts := by
 induction h with
 | mk ao cap ts us hl hc hn h hs ih =>
  intro w g deep L hw hg hL hd1 hd2 hL0 hL1
  have cg : w.cell? ⟨g, 0, none⟩ = some (.int .i64 L) := cell_of_row _ _ _ _ _ _ hL
  have lG := hL.lt
  by_cases hx : 6 < deep ∨ 16 < ts.length ∨ L < ts.length
  ·have e : pm ts deep L = -1 := if_pos hx
   rw [e]
   clear h hs ih e
   by_cases x1 : 6 < deep
   ·have d1 : decide (deep > 6) = true := by simpa using x1
    go_enter Tryz.func67, Tryz.ntmps67
    go_wp2_with (fail)
    go_ret2
    exact ⟨But.refl _ _, .inr ⟨by decide, rfl⟩⟩
   ·have d1 : decide (deep > 6) = false := by simpa using x1
    by_cases x2 : 16 < ts.length
    ·have d2 : decide ((ts.length : Int) > 16) = true := by simp; omega
     clear hx
     go_enter Tryz.func67, Tryz.ntmps67
     go_wp2_with (fail)
     go_ret2
     exact ⟨But.refl _ _, .inr ⟨by decide, rfl⟩⟩
    ·have x3 : L < ts.length := by omega
     have d2 : decide ((ts.length : Int) > 16) = false := by simp; omega
     have d3 : decide ((ts.length : Int) > L) = true := by simpa using x3
     clear hx
     go_enter Tryz.func67, Tryz.ntmps67
     go_wp2_with (fail)
     go_ret2
     exact ⟨But.refl _ _, .inr ⟨by decide, rfl⟩⟩
  ·have e : pm ts deep L = pmL ts 0 deep (L - ts.length) := if_neg hx
   rw [e]
   have x1 : ¬ 6 < deep := by omega
   have x2 : ts.length ≤ 16 := by omega
   have x3 : (ts.length : Int) ≤ L := by omega
   have d1 : decide (deep > 6) = false := by simpa using x1
   have d2 : decide ((ts.length : Int) > 16) = false := by simp; omega
   have d3 : decide ((ts.length : Int) > L) = false := by simp; omega
   clear hx e
   generalize hR : pmL ts 0 deep (L - ts.length) = R at *
   have hB0 : But g w (w.setCell ⟨g, 0, none⟩ (.int .i64 (L - ts.length))) := But.set w _
   have hL' : Lc (w.setCell ⟨g, 0, none⟩ (.int .i64 (L - ts.length))) g (L - ts.length) := by
    have := heap_setCell_same w g 0 _ _ (.int .i64 (L - ts.length)) hL
    exact this
   have fz : w.frozen? ⟨g, 0, none⟩ = false := by
    have hL2 : w.heap[g]? = some (.cells #[.int .i64 L] 132 (0, 0)) := hL
    simp [World.frozen?, hL2]
   replace hR := hide hR
   go_enter Tryz.func67, Tryz.ntmps67
   go_wp2_with (fail)
   generalize w.setCell ⟨g, 0, none⟩ (.int .i64 (L - ts.length)) = w0 at *
   go_loopw [8, 9, 41] (fun m last i wr => ∃ (k : Nat) (prev M : Int) (vs : List Value), k ≤ ts.length ∧ i = .int .i64 k ∧ last = .int .i64 prev ∧ 0 ≤ prev ∧ 0 ≤ M ∧ M ≤ 256 ∧ Lc wr g M ∧ But g w wr ∧ R = pmL (ts.drop k) prev deep M ∧ vs.length = k ∧ wr.ownsRow w.heap.size 138 2 m k (pc (ts.take k) vs) ∧ (∀ i, i < k → Flt (gs ts i) (gvs vs i)) ∧ ∀ i, i < k → nst (gs ts i) → MsgL wr (fun b => w.heap.size ≤ b ∧ m.ownBlock ≠ some b) (gvs vs i) (gs ts i).sub) (fun _ _ i _ => ts.length - (intOf i).toNat)
   case atStart => exact ⟨0, 0, L - ts.length, [], by omega, rfl, rfl, by omega, by omega, by omega, hL', hB0, hR.out.symm, rfl, ⟨rfl, .inl ⟨rfl, rfl⟩⟩, fun i hi => by omega, fun i hi => by omega⟩
   case round =>
    clear hB0 hL' hR
    obtain ⟨k, prev, M, vs, hk, rfl, rfl, hp0, hM0, hM1, hL', hB, he, hvl, hO, hFl, hN⟩ := hrel
    obtain ⟨mo, mc, rfl⟩ := own_slice hO
    have hww := hB.after hw hg
    by_cases hlt : k < ts.length
    ·have hd : decide ((k : Int) < (ts.length : Int)) = true := by simp; omega
     obtain ⟨b, off, hao, hbl, hra, hok⟩ := h k hlt
     have hSl := hs k hlt
     have hih := ih k hlt
     subst hao
     have hrw := rangeS_keep2 hra hww hbl
     have hk1 : 0 ≤ (k : Int) ∧ (k : Int) < (ts.length : Int) := by omega
     rw [sdrop ts k hlt, pmL_cons _ _ _ _ _ hM0] at he
     have hgs : ts.take (k + 1) = ts.take k ++ [gs ts k] := by
      rw [List.take_succ_eq_append_getElem hlt, gs, List.getD_eq_getElem?_getD, List.getElem?_eq_getElem hlt]; rfl
     obtain ⟨ua, uc, hue⟩ := hSl.form
     generalize hu : gvs us k = u at *
     subst hue
     clear h hs ih hra hu
     have r1 := hp1_0 wr (.cells #[.int .i64 (gs ts k).no, .int .i64 (gs ts k).kind, .int .u64 ((gs ts k).least : Int), .int .u64 ((gs ts k).most : Int), .slice ua (gs ts k).sub.length uc] 88)
     have hba : Below wr.heap.size wr (wr.alloc (.cells #[.int .i64 (gs ts k).no, .int .i64 (gs ts k).kind, .int .u64 ((gs ts k).least : Int), .int .u64 ((gs ts k).most : Int), .slice ua (gs ts k).sub.length uc] 88)) := (Below.refl _ _).alloc (Nat.le_refl _) _
     obtain ⟨c0, -, -, -, -⟩ := cells5 r1
     have cS := a_shape (t := gs ts k) hSl hih hok (wr.alloc (.cells #[.int .i64 (gs ts k).no, .int .i64 (gs ts k).kind, .int .u64 ((gs ts k).least : Int), .int .u64 ((gs ts k).most : Int), .slice ua (gs ts k).sub.length uc] 88)) g deep M (Below.after hww hba) hg (keep hba hL') (by omega) (by omega) hM0 hM1
     simp only [srow] at cS
     generalize hgt : gs ts k = t at *
     replace hgt := hide hgt
     by_cases y1 : t.no ≤ prev
     ·have e1 : decide (t.no ≤ prev) = true := by simpa using y1
      rw [if_pos (.inl y1)] at he
      replace he := hide he
      clear cS hN
      go_wp2_with (first | (refine wpList_load_slo rfl _ rfl b (off + k * 5) rfl _ _ _ _ _ hrw ?_) | (refine wpList_load_want rfl 88 _ rfl wr.heap.size rfl 88 #[.int .i64 t.no, .int .i64 t.kind, .int .u64 (t.least : Int), .int .u64 (t.most : Int), .slice ua t.sub.length uc] (0, 0) _ r1 Tryz.underlying88 rfl infoS ?_) | fail)
      go_ret2
      exact ⟨hB.trans (But.of hba), .inr ⟨by rw [he.out]; decide, rfl⟩⟩
     ·have e1 : decide (t.no ≤ prev) = false := by simpa using y1
      by_cases y2 : 536870911 < t.no
      ·have e2 : decide (t.no > 536870911) = true := by simpa using y2
       rw [if_pos (.inr y2)] at he
       replace he := hide he
       clear cS hN
       go_wp2_with (first | (refine wpList_load_slo rfl _ rfl b (off + k * 5) rfl _ _ _ _ _ hrw ?_) | (refine wpList_load_want rfl 88 _ rfl wr.heap.size rfl 88 #[.int .i64 t.no, .int .i64 t.kind, .int .u64 (t.least : Int), .int .u64 (t.most : Int), .slice ua t.sub.length uc] (0, 0) _ r1 Tryz.underlying88 rfl infoS ?_) | fail)
       go_ret2
       exact ⟨hB.trans (But.of hba), .inr ⟨by rw [he.out]; decide, rfl⟩⟩
      ·have e2 : decide (t.no > 536870911) = false := by simpa using y2
       rw [if_neg (by omega)] at he
       have hple := psh_le t deep M hM0
       have he' := he
       replace he := hide he
       replace he' := hide he'
       go_wp2_with (first | (refine wpList_load_slo rfl _ rfl b (off + k * 5) rfl _ _ _ _ _ hrw ?_) | (refine wpList_load_want rfl 88 _ rfl wr.heap.size rfl 88 #[.int .i64 t.no, .int .i64 t.kind, .int .u64 (t.least : Int), .int .u64 (t.most : Int), .slice ua t.sub.length uc] (0, 0) _ r1 Tryz.underlying88 rfl infoS ?_) | fail)
       have hsz1 : wr.heap.size < ((wr.alloc (.cells #[.int .i64 t.no, .int .i64 t.kind, .int .u64 (t.least : Int), .int .u64 (t.most : Int), .slice ua t.sub.length uc] 88))).heap.size := (Array.getElem?_eq_some_iff.1 r1).1
       generalize (wr.alloc (.cells #[.int .i64 t.no, .int .i64 t.kind, .int .u64 (t.least : Int), .int .u64 (t.most : Int), .slice ua t.sub.length uc] 88)) = w1 at *
       refine cS.mono ?_
       rintro e_ w2 ⟨hb2, hres⟩
       clear cS
       have hB2 : But g w w2 := (hB.trans (But.of hba)).trans hb2
       have hbo : ∀ q, q < wr.heap.size → q ≠ g → w2.heap[q]? = wr.heap[q]? := fun q h1 h2 => (hb2.block q (by omega) h2).trans (hba.block q h1)
       have lG' := hL'.lt
       have r2 := hb2.row r1 (by omega)
       obtain ⟨c0', -, -, -, -⟩ := cells5 r2
       have hown := own_lt hO
       have hO2 : w2.ownsRow w.heap.size 138 2 (.slice mo k mc) k (pc (ts.take k) vs) := own_but hO fun q hq => hbo q (hown q hq).2 (by have := (hown q hq).1; omega)
       rcases hres with ⟨hr0, x, rfl, hqf, hv, hl2⟩ | ⟨hr0, x, rfl⟩
       ·have hN2 : ∀ i, i < k → nst (gs ts i) → MsgL w2 (fun b => w.heap.size ≤ b ∧ (Value.slice mo k mc).ownBlock ≠ some b ∧ b < w2.heap.size) (gvs vs i) (gs ts i).sub := fun i hi hn => (hN i hi hn).keep (Nat.le_trans hba.size hb2.size) fun q h1 h2 => ⟨hbo q h1 (by have := h2.1; omega), h2.1, h2.2, by have := hba.size; have := hb2.size; omega⟩
        have hvN : nst t → MsgL w2 (fun b => w.heap.size ≤ b ∧ (Value.slice mo k mc).ownBlock ≠ some b ∧ b < w2.heap.size) x t.sub := fun hn => (hv hn).keep (Nat.le_refl _) fun q h1 h2 => ⟨rfl, by have := hB.size; omega, fun e => by have := (hown q e).2; omega, h1⟩
        replace he' := he'.out
        rw [if_neg (by omega)] at he'
        obtain ⟨Tt, cc, hsh⟩ := shp_iface t x
        rw [hsh]
        have hsh' : Hid (shp t x = .iface Tt cc) := hide hsh
        replace he' := hide he'
        have gG : (Value.slice mo k mc).ownBlock ≠ some g := fun e => by have := (hown g e).1; omega
        have hgw : g < w.heap.size := lG
        have hwS : w.heap.size ≤ w2.heap.size := hB2.size
        have hG2 : g < w2.heap.size := hl2.lt
        clear hsh hv hN hO hb2 hbo hba r1 hrw
        have cN1 : (w2.alloc (.cells #[.int .i64 t.no, .iface Tt cc] 138)).heap[w2.heap.size]? = _ := hp1_0 w2 _
        have hnc : ∀ j y, [Value.int .i64 t.no, .iface Tt cc][j]? = some y → (w2.alloc (.cells #[.int .i64 t.no, .iface Tt cc] 138)).cell? ((⟨w2.heap.size, 0, none⟩ : Addr).add j) = some y := fun j y hy => by
         rw [add_off, cell_of_row _ _ _ _ _ _ cN1]
         simpa using hy
        have hba2 : Below w2.heap.size w2 (w2.alloc (.cells #[.int .i64 t.no, .iface Tt cc] 138)) := (Below.refl _ _).alloc (Nat.le_refl _) _
        have hO3 := own_but (w' := w2.alloc (.cells #[.int .i64 t.no, .iface Tt cc] 138)) hO2 fun q hq => hba2.block q (own_lt hO2 q hq).2
        go_wp2_with (first | (at_builtin; refine wpList_append_pl rfl (.tmp 65) (.tmp 70) rfl w.heap.size _ k _ rfl hO3 (by omega) (.int .i64 t.no) (.iface Tt cc) w2.heap.size rfl hnc rfl rfl (by rw [size_alloc1]; omega) ?_) | fail)
        intro v' w3 h1 h2 h3
        have hsA : (w2.alloc (.cells #[.int .i64 t.no, .iface Tt cc] 138)).heap.size = w2.heap.size + 1 := size_alloc1 _ _
        have hB3 : But g w w3 := ⟨h2.os.trans (hba2.os.trans hB2.os), h2.tape.trans (hba2.tape.trans hB2.tape), h2.output.trans (hba2.output.trans hB2.output), Nat.le_trans hwS (Nat.le_trans hba2.size h2.size),
         fun q h4 h5 => (h2.block q (by omega) (fun e => by have := (hown q e.symm).1; omega)).trans ((hba2.block q (by omega)).trans (hB2.block q h4 h5))⟩
        have hL3 : Lc w3 g (psh t deep M) := ((h2.block g (by omega) (fun e => gG e.symm)).trans (hba2.block g hG2)).trans hl2
        have hS3 : ∀ q, q < w2.heap.size → (w.heap.size ≤ q ∧ (Value.slice mo k mc).ownBlock ≠ some q ∧ q < w2.heap.size) → w3.heap[q]? = w2.heap[q]? ∧ (w.heap.size ≤ q ∧ v'.ownBlock ≠ some q) := fun q h4 h5 =>
         ⟨(h2.block q (by omega) (fun e => h5.2.1 e.symm)).trans (hba2.block q h4), h5.1, h3.ne (by omega) h5.2.1⟩
        have hs23 : w2.heap.size ≤ w3.heap.size := Nat.le_trans hba2.size h2.size
        have hN3 : ∀ i, i < k + 1 → nst (gs ts i) → MsgL w3 (fun b => w.heap.size ≤ b ∧ v'.ownBlock ≠ some b) (gvs (vs ++ [x]) i) (gs ts i).sub := fun i hi hni => by
         rcases Nat.lt_or_ge i k with h6 | h6
         ·rw [show gvs (vs ++ [x]) i = gvs vs i from gvs_low _ _ _ (by omega)]
          exact (hN2 i h6 hni).keep hs23 hS3
         ·have h7 : i = k := by omega
          subst h7
          rw [show gvs (vs ++ [x]) i = x from gvs_top _ _ _ hvl]
          rw [hgt.out] at hni ⊢
          exact (hvN hni).keep hs23 hS3
        have hF3 : ∀ i, i < k + 1 → Flt (gs ts i) (gvs (vs ++ [x]) i) := fun i hi => by
         rcases Nat.lt_or_ge i k with h6 | h6
         ·rw [gvs_low _ _ _ (by omega)]
          exact hFl i h6
         ·have h7 : i = k := by omega
          subst h7
          rw [gvs_top _ _ _ hvl, hgt.out]
          exact hqf
        have hO4 : w3.ownsRow w.heap.size 138 2 v' (k + 1) (pc (ts.take (k + 1)) (vs ++ [x])) := by
         rw [hgs, pc_snoc _ _ _ _ (by rw [List.length_take]; omega), hsh'.out]
         exact h1
        obtain ⟨no', co', hv'⟩ := own_slice h1
        subst hv'
        clear h1 h2 h3 hN2 hvN hO2 hO3 hba2 hnc cN1 hS3 hown
        go_wp2_with (fail)
        refine ⟨⟨k + 1, t.no, psh t deep M, vs ++ [x], by omega, by go_num, rfl, by omega, hr0, by omega, hL3, hB3, he'.out, by simp; omega, hO4, hF3, hN3⟩, ?_⟩
        simp [intOf]; omega
       ·go_wp2_with (fail)
        go_ret2
        refine ⟨hB2, .inr ⟨?_, rfl⟩⟩
        rw [he.out, if_pos hr0]
        decide
    ·have hd : decide ((k : Int) < (ts.length : Int)) = false := by simp; omega
     have hkl : k = ts.length := by omega
     subst hkl
     rw [List.drop_eq_nil_of_le (Nat.le_refl _), pmL] at he
     rw [List.take_length] at hO
     have hm := msg_of hO hvl.symm x2 (fun i hi => (h i hi).elim fun _ q => q.elim fun _ q => q.2.2.2) hFl (fun i hi hn => (hN i hi hn).keep (Nat.le_refl _) fun b _ hb => ⟨rfl, hb.1⟩)
     replace he := hide he
     clear h hs ih hN hvl hO
     go_wp2_with (fail)
     go_ret2
     exact ⟨hB, .inl ⟨by rw [he.out]; exact hM0, _, rfl, hm, by rw [he.out]; exact hL'⟩⟩
set_option maxRecDepth 100000 in
set_option maxHeartbeats 4000000 in
theorem a_outline {W : World} {v : Value} {ts : List Slt} (h : Slo W v ts) (w : World) (hw : Below W.heap.size W w) : Calls Tryz.prog 41 #[v] w fun e w' => Below w.heap.size w w' ∧ ((vld ts = 0 ∧ ∃ m, e = .returned (.tuple #[m, .int .i64 0]) ∧ MsgL w' (fun b => w.heap.size ≤ b) m ts) ∨ (vld ts ≠ 0 ∧ e = .returned (.tuple #[.slice none 0 0, .int .i64 (vld ts)]))) := by
 have r1 := hp1_0 w (.cells #[.int .i64 256] 132)
 have hba : Below w.heap.size w (w.alloc (.cells #[.int .i64 256] 132)) := (Below.refl _ _).alloc (Nat.le_refl _) _
 have hsz := hba.size
 have cM := a_message h _ w.heap.size 1 256 (Below.after hw hba) hw.size r1 (by omega) (by omega) (by omega) (by omega)
 have hpl := pm_lft ts 1 256 (by omega)
 have hv1 : lft ts 1 256 < 0 → vld ts = 80 := fun h => if_pos h
 have hv2 : ¬ lft ts 1 256 < 0 → vld ts = if 4194304 < (spL ts 0 0).2 then 2 else 0 := fun h => if_neg h
 have hgd : 0 ≤ lft ts 1 256 → gd ts := lft_gd ts 1 256 (by omega)
 have hps := prS_spL ts
 have hle := spL_le ts 0 0 (by omega) (by omega)
 rw [← hps] at hv2 hle
 clear hps
 obtain ⟨ao, cap, rfl⟩ := h.form
 go_enter Tryz.func41, Tryz.ntmps41
 go_wp2_with (fail)
 generalize w.alloc (.cells #[.int .i64 256] 132) = w0 at *
 refine cM.mono ?_
 rintro e_ w1 ⟨hb1, hres⟩
 have hB : Below w.heap.size w w1 := hba.trans (hb1.below (Nat.le_refl _) hsz)
 clear cM
 rcases hres with ⟨hr0, m, rfl, hm, _⟩ | ⟨hr0, rfl⟩
 ·have hg := hgd (hpl.1 hr0)
  have cS := a_mspan hm.msg hg w1 (Below.refl _ _)
  have hv3 := hv2 (by have := hpl.1 hr0; omega)
  obtain ⟨hl1, hl2⟩ := hle
  generalize (prS ts).1 = A at *
  generalize (prS ts).2 = Bm at *
  have hm2 : MsgL w1 (fun b => w.heap.size ≤ b) m ts := hm.keep (Nat.le_refl _) fun b _ hb => ⟨rfl, by omega⟩
  clear hv1 hv2 hgd hpl hr0 hg hm
  by_cases hBm : 4194304 < Bm
  ·rw [if_pos hBm] at hv3
   have d1 : decide ((Bm : Int) > 4194304) = true := by simp; omega
   replace hv3 := hide hv3
   go_wp2_with (fail)
   refine cS.mono ?_
   rintro e_ w2 ⟨rfl, hb2⟩
   go_wp2_with (fail)
   go_ret2
   exact ⟨hB.trans (hb2.mono hB.size), .inr ⟨by rw [hv3.out]; decide, by rw [hv3.out]; rfl⟩⟩
  ·rw [if_neg hBm] at hv3
   have d1 : decide ((Bm : Int) > 4194304) = false := by simp; omega
   replace hv3 := hide hv3
   go_wp2_with (fail)
   refine cS.mono ?_
   rintro e_ w2 ⟨rfl, hb2⟩
   go_wp2_with (fail)
   go_ret2
   exact ⟨hB.trans (hb2.mono hB.size), .inl ⟨hv3.out, _, rfl, hm2.keep hb2.size fun b h1 h2 => ⟨hb2.block b h1, h2⟩⟩⟩
 ·have hv3 := hv1 (by have := hpl.2; omega)
  replace hv3 := hide hv3
  clear hv1 hv2 hgd hpl hle
  go_wp2_with (fail)
  go_ret2
  exact ⟨hB, .inr ⟨by rw [hv3.out]; decide, by rw [hv3.out]; rfl⟩⟩
end Go.Proofs.YtejcggjmbjmoeaaGreatDoor
namespace Go.Proofs.YtejcggjmbjmoeaaGreatDoor
set_option maxRecDepth 100000
open Go Go.RowKit Go.Sort
attribute [local go_sem] setCell_drewN alloc_drewN
theorem xb3 (w : World) (o0 o1 o2 : Obj) : Below w.heap.size w (((w.alloc o0).alloc o1).alloc o2) := by
 refine .alloc (.alloc (.alloc (Below.refl _ _) ?_ _) ?_ _) ?_ _ <;> simp <;> omega
theorem xp3_0 (w : World) (o0 o1 o2 : Obj) : (((w.alloc o0).alloc o1).alloc o2).heap[w.heap.size]? = some o0 := by
 have e : w.heap.size = w.heap.size := by simp
 have h := (Below.heap_alloc ((w.alloc o0).alloc o1) o2 _ (by simp <;> omega)).trans ((Below.heap_alloc (w.alloc o0) o1 _ (by simp <;> omega)).trans (hp1_0 w o0))
 rw [e] at h
 exact h
theorem xp3_1 (w : World) (o0 o1 o2 : Obj) : (((w.alloc o0).alloc o1).alloc o2).heap[w.heap.size + 1]? = some o1 := by
 have e : (w.alloc o0).heap.size = w.heap.size + 1 := by simp
 have h := (Below.heap_alloc ((w.alloc o0).alloc o1) o2 _ (by simp <;> omega)).trans (hp1_0 (w.alloc o0) o1)
 rw [e] at h
 exact h
theorem xp3_2 (w : World) (o0 o1 o2 : Obj) : (((w.alloc o0).alloc o1).alloc o2).heap[w.heap.size + 1 + 1]? = some o2 := by
 have e : ((w.alloc o0).alloc o1).heap.size = w.heap.size + 1 + 1 := by simp
 have h := hp1_0 ((w.alloc o0).alloc o1) o2
 rw [e] at h
 exact h
theorem xb4 (w : World) (o0 o1 o2 o3 : Obj) : Below w.heap.size w ((((w.alloc o0).alloc o1).alloc o2).alloc o3) := by
 refine .alloc (.alloc (.alloc (.alloc (Below.refl _ _) ?_ _) ?_ _) ?_ _) ?_ _ <;> simp <;> omega
theorem xp4_0 (w : World) (o0 o1 o2 o3 : Obj) : ((((w.alloc o0).alloc o1).alloc o2).alloc o3).heap[w.heap.size]? = some o0 := by
 have e : w.heap.size = w.heap.size := by simp
 have h := (Below.heap_alloc (((w.alloc o0).alloc o1).alloc o2) o3 _ (by simp <;> omega)).trans ((Below.heap_alloc ((w.alloc o0).alloc o1) o2 _ (by simp <;> omega)).trans ((Below.heap_alloc (w.alloc o0) o1 _ (by simp <;> omega)).trans (hp1_0 w o0)))
 rw [e] at h
 exact h
theorem xp4_1 (w : World) (o0 o1 o2 o3 : Obj) : ((((w.alloc o0).alloc o1).alloc o2).alloc o3).heap[w.heap.size + 1]? = some o1 := by
 have e : (w.alloc o0).heap.size = w.heap.size + 1 := by simp
 have h := (Below.heap_alloc (((w.alloc o0).alloc o1).alloc o2) o3 _ (by simp <;> omega)).trans ((Below.heap_alloc ((w.alloc o0).alloc o1) o2 _ (by simp <;> omega)).trans (hp1_0 (w.alloc o0) o1))
 rw [e] at h
 exact h
theorem xp4_2 (w : World) (o0 o1 o2 o3 : Obj) : ((((w.alloc o0).alloc o1).alloc o2).alloc o3).heap[w.heap.size + 1 + 1]? = some o2 := by
 have e : ((w.alloc o0).alloc o1).heap.size = w.heap.size + 1 + 1 := by simp
 have h := (Below.heap_alloc (((w.alloc o0).alloc o1).alloc o2) o3 _ (by simp <;> omega)).trans (hp1_0 ((w.alloc o0).alloc o1) o2)
 rw [e] at h
 exact h
theorem xp4_3 (w : World) (o0 o1 o2 o3 : Obj) : ((((w.alloc o0).alloc o1).alloc o2).alloc o3).heap[w.heap.size + 1 + 1 + 1]? = some o3 := by
 have e : (((w.alloc o0).alloc o1).alloc o2).heap.size = w.heap.size + 1 + 1 + 1 := by simp
 have h := hp1_0 (((w.alloc o0).alloc o1).alloc o2) o3
 rw [e] at h
 exact h
theorem xb5 (w : World) (o0 o1 o2 o3 o4 : Obj) : Below w.heap.size w (((((w.alloc o0).alloc o1).alloc o2).alloc o3).alloc o4) := by
 refine .alloc (.alloc (.alloc (.alloc (.alloc (Below.refl _ _) ?_ _) ?_ _) ?_ _) ?_ _) ?_ _ <;> simp <;> omega
theorem xp5_0 (w : World) (o0 o1 o2 o3 o4 : Obj) : (((((w.alloc o0).alloc o1).alloc o2).alloc o3).alloc o4).heap[w.heap.size]? = some o0 := by
 have e : w.heap.size = w.heap.size := by simp
 have h := (Below.heap_alloc ((((w.alloc o0).alloc o1).alloc o2).alloc o3) o4 _ (by simp <;> omega)).trans ((Below.heap_alloc (((w.alloc o0).alloc o1).alloc o2) o3 _ (by simp <;> omega)).trans ((Below.heap_alloc ((w.alloc o0).alloc o1) o2 _ (by simp <;> omega)).trans ((Below.heap_alloc (w.alloc o0) o1 _ (by simp <;> omega)).trans (hp1_0 w o0))))
 rw [e] at h
 exact h
theorem xp5_1 (w : World) (o0 o1 o2 o3 o4 : Obj) : (((((w.alloc o0).alloc o1).alloc o2).alloc o3).alloc o4).heap[w.heap.size + 1]? = some o1 := by
 have e : (w.alloc o0).heap.size = w.heap.size + 1 := by simp
 have h := (Below.heap_alloc ((((w.alloc o0).alloc o1).alloc o2).alloc o3) o4 _ (by simp <;> omega)).trans ((Below.heap_alloc (((w.alloc o0).alloc o1).alloc o2) o3 _ (by simp <;> omega)).trans ((Below.heap_alloc ((w.alloc o0).alloc o1) o2 _ (by simp <;> omega)).trans (hp1_0 (w.alloc o0) o1)))
 rw [e] at h
 exact h
theorem xp5_2 (w : World) (o0 o1 o2 o3 o4 : Obj) : (((((w.alloc o0).alloc o1).alloc o2).alloc o3).alloc o4).heap[w.heap.size + 1 + 1]? = some o2 := by
 have e : ((w.alloc o0).alloc o1).heap.size = w.heap.size + 1 + 1 := by simp
 have h := (Below.heap_alloc ((((w.alloc o0).alloc o1).alloc o2).alloc o3) o4 _ (by simp <;> omega)).trans ((Below.heap_alloc (((w.alloc o0).alloc o1).alloc o2) o3 _ (by simp <;> omega)).trans (hp1_0 ((w.alloc o0).alloc o1) o2))
 rw [e] at h
 exact h
theorem xp5_3 (w : World) (o0 o1 o2 o3 o4 : Obj) : (((((w.alloc o0).alloc o1).alloc o2).alloc o3).alloc o4).heap[w.heap.size + 1 + 1 + 1]? = some o3 := by
 have e : (((w.alloc o0).alloc o1).alloc o2).heap.size = w.heap.size + 1 + 1 + 1 := by simp
 have h := (Below.heap_alloc ((((w.alloc o0).alloc o1).alloc o2).alloc o3) o4 _ (by simp <;> omega)).trans (hp1_0 (((w.alloc o0).alloc o1).alloc o2) o3)
 rw [e] at h
 exact h
theorem xp5_4 (w : World) (o0 o1 o2 o3 o4 : Obj) : (((((w.alloc o0).alloc o1).alloc o2).alloc o3).alloc o4).heap[w.heap.size + 1 + 1 + 1 + 1]? = some o4 := by
 have e : ((((w.alloc o0).alloc o1).alloc o2).alloc o3).heap.size = w.heap.size + 1 + 1 + 1 + 1 := by simp
 have h := hp1_0 ((((w.alloc o0).alloc o1).alloc o2).alloc o3) o4
 rw [e] at h
 exact h
theorem infoSt : (Tryz.prog.info? 114).map (·.size) = some 5 := by kernel_rfl
def ptr (g : Nat) : Value := .pointer (some ⟨g, 0, none⟩)
set_option maxRecDepth 100000 in
set_option maxHeartbeats 4000000 in
theorem a_plain (no wt : Int) (k : FuncId) (cs : Array Value) (w : World) : Calls Tryz.prog 89 #[.int .i64 no, .int .i64 wt, .func (.func k) #[] cs] w fun e w' => e = .returned (.agg #[.int .i64 no, .int .i64 wt, (.func (.func 114) #[] #[.pointer (some ⟨w.heap.size + 1 + 1 + 1 + 1, 0, none⟩), .pointer (some ⟨w.heap.size, 0, none⟩), .pointer (some ⟨w.heap.size + 1 + 1, 0, none⟩)] : Value), (.func (.func 115) #[] #[.pointer (some ⟨w.heap.size, 0, none⟩), .pointer (some ⟨w.heap.size + 1, 0, none⟩)] : Value), (.func (.func 116) #[] #[.pointer (some ⟨w.heap.size + 1 + 1, 0, none⟩)] : Value)]) ∧ Below w.heap.size w w' ∧ (∃ T, w'.heap[w.heap.size]? = some (.cells #[.int .i64 no] T (0, 0))) ∧ (∃ T, w'.heap[w.heap.size + 1]? = some (.cells #[.int .i64 wt] T (0, 0))) ∧ (∃ T, w'.heap[w.heap.size + 1 + 1]? = some (.cells #[.func (.func k) #[] cs] T (0, 0))) ∧ (∃ T, w'.heap[w.heap.size + 1 + 1 + 1 + 1]? = some (.cells #[.bool (wt == 2)] T (0, 0))) := by
 go_enter Tryz.func89, Tryz.ntmps89
 go_wp2
 exact bodyPost_ret (v := .agg #[.int .i64 no, .int .i64 wt, (.func (.func 114) #[] #[.pointer (some ⟨w.heap.size + 1 + 1 + 1 + 1, 0, none⟩), .pointer (some ⟨w.heap.size, 0, none⟩), .pointer (some ⟨w.heap.size + 1 + 1, 0, none⟩)] : Value), (.func (.func 115) #[] #[.pointer (some ⟨w.heap.size, 0, none⟩), .pointer (some ⟨w.heap.size + 1, 0, none⟩)] : Value), (.func (.func 116) #[] #[.pointer (some ⟨w.heap.size + 1 + 1, 0, none⟩)] : Value)]) (results_cell_row Tryz.results89 _ _ (w.heap.size + 1 + 1 + 1) _ #[.int .i64 no, .int .i64 wt, (.func (.func 114) #[] #[.pointer (some ⟨w.heap.size + 1 + 1 + 1 + 1, 0, none⟩), .pointer (some ⟨w.heap.size, 0, none⟩), .pointer (some ⟨w.heap.size + 1 + 1, 0, none⟩)] : Value), (.func (.func 115) #[] #[.pointer (some ⟨w.heap.size, 0, none⟩), .pointer (some ⟨w.heap.size + 1, 0, none⟩)] : Value), (.func (.func 116) #[] #[.pointer (some ⟨w.heap.size + 1 + 1, 0, none⟩)] : Value)] _ _ rfl (xp5_3 w _ _ _ _ _) Tryz.underlying114 rfl infoSt) rfl ⟨rfl, xb5 w _ _ _ _ _, ⟨_, xp5_0 w _ _ _ _ _⟩, ⟨_, xp5_1 w _ _ _ _ _⟩, ⟨_, xp5_2 w _ _ _ _ _⟩, ⟨_, xp5_4 w _ _ _ _ _⟩⟩
set_option maxRecDepth 100000 in
set_option maxHeartbeats 4000000 in
theorem a_inner (no : Int) (ao : Option Addr) (n cap : Nat) (w : World) : Calls Tryz.prog 96 #[.int .i64 no, .slice ao n cap] w fun e w' => e = .returned (.agg #[.int .i64 no, .int .i64 2, (.func (.func 123) #[] #[.pointer (some ⟨w.heap.size + 1, 0, none⟩)] : Value), (.func (.func 124) #[] #[.pointer (some ⟨w.heap.size, 0, none⟩), .pointer (some ⟨w.heap.size + 1, 0, none⟩)] : Value), (.func (.func 125) #[] #[.pointer (some ⟨w.heap.size + 1, 0, none⟩)] : Value)]) ∧ Below w.heap.size w w' ∧ (∃ T, w'.heap[w.heap.size]? = some (.cells #[.int .i64 no] T (0, 0))) ∧ (∃ T, w'.heap[w.heap.size + 1]? = some (.cells #[.slice ao n cap] T (0, 0))) := by
 go_enter Tryz.func96, Tryz.ntmps96
 go_wp2
 exact bodyPost_ret (v := .agg #[.int .i64 no, .int .i64 2, (.func (.func 123) #[] #[.pointer (some ⟨w.heap.size + 1, 0, none⟩)] : Value), (.func (.func 124) #[] #[.pointer (some ⟨w.heap.size, 0, none⟩), .pointer (some ⟨w.heap.size + 1, 0, none⟩)] : Value), (.func (.func 125) #[] #[.pointer (some ⟨w.heap.size + 1, 0, none⟩)] : Value)]) (results_cell_row Tryz.results96 _ _ (w.heap.size + 1 + 1) _ #[.int .i64 no, .int .i64 2, (.func (.func 123) #[] #[.pointer (some ⟨w.heap.size + 1, 0, none⟩)] : Value), (.func (.func 124) #[] #[.pointer (some ⟨w.heap.size, 0, none⟩), .pointer (some ⟨w.heap.size + 1, 0, none⟩)] : Value), (.func (.func 125) #[] #[.pointer (some ⟨w.heap.size + 1, 0, none⟩)] : Value)] _ _ rfl (xp3_2 w _ _ _) Tryz.underlying114 rfl infoSt) rfl ⟨rfl, xb3 w _ _ _, ⟨_, xp3_0 w _ _ _⟩, ⟨_, xp3_1 w _ _ _⟩⟩
set_option maxRecDepth 100000 in
set_option maxHeartbeats 4000000 in
theorem a_listed (no l mo : Int) (bo : Option Addr) (bn bc : Nat) (ao : Option Addr) (n cap : Nat) (w : World) : Calls Tryz.prog 97 #[.int .i64 no, .agg #[.int .u64 l, .int .u64 mo, .slice bo bn bc], .slice ao n cap] w fun e w' => e = .returned (.agg #[.int .i64 no, .int .i64 2, (.func (.func 127) #[] #[.pointer (some ⟨w.heap.size, 0, none⟩), .pointer (some ⟨w.heap.size + 1, 0, none⟩), .pointer (some ⟨w.heap.size + 1 + 1, 0, none⟩)] : Value), (.func (.func 129) #[] #[.pointer (some ⟨w.heap.size, 0, none⟩), .pointer (some ⟨w.heap.size + 1 + 1, 0, none⟩)] : Value), (.func (.func 131) #[] #[.pointer (some ⟨w.heap.size + 1, 0, none⟩), .pointer (some ⟨w.heap.size + 1 + 1, 0, none⟩)] : Value)]) ∧ Below w.heap.size w w' ∧ (∃ T, w'.heap[w.heap.size]? = some (.cells #[.int .i64 no] T (0, 0))) ∧ (∃ T, w'.heap[w.heap.size + 1]? = some (.cells #[.int .u64 l, .int .u64 mo, .slice bo bn bc] T (0, 0))) ∧ (∃ T, w'.heap[w.heap.size + 1 + 1]? = some (.cells #[.slice ao n cap] T (0, 0))) := by
 go_enter Tryz.func97, Tryz.ntmps97
 go_wp2
 exact bodyPost_ret (v := .agg #[.int .i64 no, .int .i64 2, (.func (.func 127) #[] #[.pointer (some ⟨w.heap.size, 0, none⟩), .pointer (some ⟨w.heap.size + 1, 0, none⟩), .pointer (some ⟨w.heap.size + 1 + 1, 0, none⟩)] : Value), (.func (.func 129) #[] #[.pointer (some ⟨w.heap.size, 0, none⟩), .pointer (some ⟨w.heap.size + 1 + 1, 0, none⟩)] : Value), (.func (.func 131) #[] #[.pointer (some ⟨w.heap.size + 1, 0, none⟩), .pointer (some ⟨w.heap.size + 1 + 1, 0, none⟩)] : Value)]) (results_cell_row Tryz.results97 _ _ (w.heap.size + 1 + 1 + 1) _ #[.int .i64 no, .int .i64 2, (.func (.func 127) #[] #[.pointer (some ⟨w.heap.size, 0, none⟩), .pointer (some ⟨w.heap.size + 1, 0, none⟩), .pointer (some ⟨w.heap.size + 1 + 1, 0, none⟩)] : Value), (.func (.func 129) #[] #[.pointer (some ⟨w.heap.size, 0, none⟩), .pointer (some ⟨w.heap.size + 1 + 1, 0, none⟩)] : Value), (.func (.func 131) #[] #[.pointer (some ⟨w.heap.size + 1, 0, none⟩), .pointer (some ⟨w.heap.size + 1 + 1, 0, none⟩)] : Value)] _ _ rfl (xp4_3 w _ _ _ _) Tryz.underlying114 rfl infoSt) rfl ⟨rfl, xb4 w _ _ _ _, ⟨_, xp4_0 w _ _ _ _⟩, ⟨_, xp4_1 w _ _ _ _⟩, ⟨_, xp4_2 w _ _ _ _⟩⟩
end Go.Proofs.YtejcggjmbjmoeaaGreatDoor
namespace Go.Proofs.YtejcggjmbjmoeaaGreatDoor
set_option maxRecDepth 100000
open Go Go.RowKit Go.Sort
attribute [local go_sem] setCell_drewN alloc_drewN
@[local go_sem] theorem run_store_flt {P : Program} {w : World} {a : Addr} {m : Mode} (k : FloatKind) (b : Nat) : (store a (.float k b) m).run P w = stored P w a (.float k b) m := run_store P w a _ m rfl
def Bx (W : World) (g : Nat) (c : Array Value) : Prop := ∃ T, W.heap[g]? = some (.cells c T (0, 0))
theorem Bx.keep {W V : World} {g : Nat} {c : Array Value} (h : Bx W g c) (hb : Below W.heap.size W V) : Bx V g c := by
 obtain ⟨T, h⟩ := h
 exact ⟨T, Go.Proofs.YtejcggjmbjmoeaaGreatDoor.keep hb h⟩
theorem Bx.other {W : World} {g k : Nat} {c : Array Value} {o : Nat} {v : Value} (h : Bx W g c) (hk : g ≠ k) : Bx (W.setCell ⟨k, o, none⟩ v) g c := by
 obtain ⟨T, h⟩ := h
 exact ⟨T, (heap_setCell_other W _ g v hk).trans h⟩
theorem Bx.five {W : World} {g k : Nat} {c : Array Value} {o0 o1 o2 o3 o4 : Nat} {v0 v1 v2 v3 v4 : Value} (h : Bx W g c) (hk : g ≠ k) : Bx (((((W.setCell ⟨k, o0, none⟩ v0).setCell ⟨k, o1, none⟩ v1).setCell ⟨k, o2, none⟩ v2).setCell ⟨k, o3, none⟩ v3).setCell ⟨k, o4, none⟩ v4) g c := ((((h.other hk).other hk).other hk).other hk).other hk
theorem ta_numbers (c : Value) (W : World) : (Instr.typeAssert (.iface 177 c) 136 177 true).run Tryz.prog W = .ok (.tuple #[c, .bool true]) W := by kernel_rfl
theorem ta_floats_numbers (c : Value) (W : World) : (Instr.typeAssert (.iface 183 c) 136 177 true).run Tryz.prog W = .ok (.tuple #[.agg #[.int .i64 0, .int .u64 0, .int .u64 0], .bool false]) W := by kernel_rfl
theorem ta_floats (c : Value) (W : World) : (Instr.typeAssert (.iface 183 c) 136 183 true).run Tryz.prog W = .ok (.tuple #[c, .bool true]) W := by kernel_rfl
theorem ta_octets_numbers (c : Value) (W : World) : (Instr.typeAssert (.iface 186 c) 136 177 true).run Tryz.prog W = .ok (.tuple #[.agg #[.int .i64 0, .int .u64 0, .int .u64 0], .bool false]) W := by kernel_rfl
theorem ta_octets_floats (c : Value) (W : World) : (Instr.typeAssert (.iface 186 c) 136 183 true).run Tryz.prog W = .ok (.tuple #[.agg #[.float .f64 0], .bool false]) W := by kernel_rfl
theorem ta_octets (c : Value) (W : World) : (Instr.typeAssert (.iface 186 c) 136 186 true).run Tryz.prog W = .ok (.tuple #[c, .bool true]) W := by kernel_rfl
theorem ta_message_numbers (c : Value) (W : World) : (Instr.typeAssert (.iface 90 c) 136 177 true).run Tryz.prog W = .ok (.tuple #[.agg #[.int .i64 0, .int .u64 0, .int .u64 0], .bool false]) W := by kernel_rfl
theorem ta_message_floats (c : Value) (W : World) : (Instr.typeAssert (.iface 90 c) 136 183 true).run Tryz.prog W = .ok (.tuple #[.agg #[.float .f64 0], .bool false]) W := by kernel_rfl
theorem ta_message_octets (c : Value) (W : World) : (Instr.typeAssert (.iface 90 c) 136 186 true).run Tryz.prog W = .ok (.tuple #[.agg #[.int .u64 0, .int .u64 0, .bool false], .bool false]) W := by kernel_rfl
theorem ta_message (c : Value) (W : World) : (Instr.typeAssert (.iface 90 c) 136 90 true).run Tryz.prog W = .ok (.tuple #[c, .bool true]) W := by kernel_rfl
theorem ta_lists_numbers (c : Value) (W : World) : (Instr.typeAssert (.iface 190 c) 136 177 true).run Tryz.prog W = .ok (.tuple #[.agg #[.int .i64 0, .int .u64 0, .int .u64 0], .bool false]) W := by kernel_rfl
theorem ta_lists_floats (c : Value) (W : World) : (Instr.typeAssert (.iface 190 c) 136 183 true).run Tryz.prog W = .ok (.tuple #[.agg #[.float .f64 0], .bool false]) W := by kernel_rfl
theorem ta_lists_octets (c : Value) (W : World) : (Instr.typeAssert (.iface 190 c) 136 186 true).run Tryz.prog W = .ok (.tuple #[.agg #[.int .u64 0, .int .u64 0, .bool false], .bool false]) W := by kernel_rfl
theorem ta_lists_message (c : Value) (W : World) : (Instr.typeAssert (.iface 190 c) 136 90 true).run Tryz.prog W = .ok (.tuple #[.slice none 0 0, .bool false]) W := by kernel_rfl
theorem ta_lists (c : Value) (W : World) : (Instr.typeAssert (.iface 190 c) 136 190 true).run Tryz.prog W = .ok (.tuple #[c, .bool true]) W := by kernel_rfl
set_option maxRecDepth 100000 in
set_option maxHeartbeats 4000000 in
theorem a_ready_num (no wt : Int) (l m : Int) (w : World) : Calls Tryz.prog 70 #[.agg #[.int .i64 no, .iface 177 (.agg #[.int .i64 wt, .int .u64 l, .int .u64 m])]] w fun e w' => e = .returned (.agg #[.int .i64 no, .int .i64 wt, (.func (.func 114) #[] #[.pointer (some ⟨(w.heap.size + 1 + 1 + 1) + 1 + 1 + 1 + 1, 0, none⟩), .pointer (some ⟨(w.heap.size + 1 + 1 + 1), 0, none⟩), .pointer (some ⟨(w.heap.size + 1 + 1 + 1) + 1 + 1, 0, none⟩)] : Value), (.func (.func 115) #[] #[.pointer (some ⟨(w.heap.size + 1 + 1 + 1), 0, none⟩), .pointer (some ⟨(w.heap.size + 1 + 1 + 1) + 1, 0, none⟩)] : Value), (.func (.func 116) #[] #[.pointer (some ⟨(w.heap.size + 1 + 1 + 1) + 1 + 1, 0, none⟩)] : Value)]) ∧ Below w.heap.size w w' ∧ Bx w' (w.heap.size + 1 + 1) #[.int .i64 wt, .int .u64 l, .int .u64 m] ∧ Bx w' (w.heap.size + 1 + 1 + 1) #[.int .i64 no] ∧ Bx w' ((w.heap.size + 1 + 1 + 1) + 1) #[.int .i64 wt] ∧ Bx w' ((w.heap.size + 1 + 1 + 1) + 1 + 1) #[.func (.func 90) #[] #[.pointer (some ⟨w.heap.size + 1 + 1, 0, none⟩)]] ∧ Bx w' ((w.heap.size + 1 + 1 + 1) + 1 + 1 + 1 + 1) #[.bool ((wt : Int) == 2)] := by
 have hsz : (((w.alloc (.cells #[.int .i64 no, .iface 177 (.agg #[.int .i64 wt, .int .u64 l, .int .u64 m])] 138)).alloc (.cells #[.int .i64 0, .int .i64 0, .nilFunc, .nilFunc, .nilFunc] 114)).alloc (.cells #[.int .i64 wt, .int .u64 l, .int .u64 m] 177)).heap.size = (w.heap.size + 1 + 1 + 1) := by simp
 have cP := a_plain no wt 90 #[.pointer (some ⟨w.heap.size + 1 + 1, 0, none⟩)] (((w.alloc (.cells #[.int .i64 no, .iface 177 (.agg #[.int .i64 wt, .int .u64 l, .int .u64 m])] 138)).alloc (.cells #[.int .i64 0, .int .i64 0, .nilFunc, .nilFunc, .nilFunc] 114)).alloc (.cells #[.int .i64 wt, .int .u64 l, .int .u64 m] 177))
 rw [hsz] at cP
 have q1 := xp3_1 w (.cells #[.int .i64 no, .iface 177 (.agg #[.int .i64 wt, .int .u64 l, .int .u64 m])] 138) (.cells #[.int .i64 0, .int .i64 0, .nilFunc, .nilFunc, .nilFunc] 114) (.cells #[.int .i64 wt, .int .u64 l, .int .u64 m] 177)
 have q2 := xp3_2 w (.cells #[.int .i64 no, .iface 177 (.agg #[.int .i64 wt, .int .u64 l, .int .u64 m])] 138) (.cells #[.int .i64 0, .int .i64 0, .nilFunc, .nilFunc, .nilFunc] 114) (.cells #[.int .i64 wt, .int .u64 l, .int .u64 m] 177)
 have hb := xb3 w (.cells #[.int .i64 no, .iface 177 (.agg #[.int .i64 wt, .int .u64 l, .int .u64 m])] 138) (.cells #[.int .i64 0, .int .i64 0, .nilFunc, .nilFunc, .nilFunc] 114) (.cells #[.int .i64 wt, .int .u64 l, .int .u64 m] 177)
 have t0 := ta_numbers (.agg #[.int .i64 wt, .int .u64 l, .int .u64 m])
 have A0 := hide hsz
 have A1 := hide q1
 have A2 := hide q2
 have A3 := hide hb
 clear hsz q1 q2 hb
 go_enter Tryz.func70, Tryz.ntmps70
 go_wp2_with (fail)
 generalize (((w.alloc (.cells #[.int .i64 no, .iface 177 (.agg #[.int .i64 wt, .int .u64 l, .int .u64 m])] 138)).alloc (.cells #[.int .i64 0, .int .i64 0, .nilFunc, .nilFunc, .nilFunc] 114)).alloc (.cells #[.int .i64 wt, .int .u64 l, .int .u64 m] 177)) = w3 at *
 refine cP.mono ?_
 rintro e_ w4 ⟨rfl, hb4, b0, b1, b2, b4⟩
 have hb4' : Below w3.heap.size w3 w4 := by rw [A0.out]; exact hb4
 have r1 := keep hb4' A1.out
 have r2 := keep hb4' A2.out
 have hB := Below.after A3.out hb4'
 have n0 : w4.cell? ⟨w.heap.size + 1, 0, none⟩ = some (.int .i64 0) := cell_of_row _ _ _ _ _ _ r1
 have n1 : w4.cell? ⟨w.heap.size + 1, 1, none⟩ = some (.int .i64 0) := cell_of_row _ _ _ _ _ _ r1
 have n2 : w4.cell? ⟨w.heap.size + 1, 2, none⟩ = some .nilFunc := cell_of_row _ _ _ _ _ _ r1
 have n3 : w4.cell? ⟨w.heap.size + 1, 3, none⟩ = some .nilFunc := cell_of_row _ _ _ _ _ _ r1
 have n4 : w4.cell? ⟨w.heap.size + 1, 4, none⟩ = some .nilFunc := cell_of_row _ _ _ _ _ _ r1
 have z0 : w4.frozen? ⟨w.heap.size + 1, 0, none⟩ = false := by simp [World.frozen?, r1]
 have z1 : w4.frozen? ⟨w.heap.size + 1, 1, none⟩ = false := by simp [World.frozen?, r1]
 have z2 : w4.frozen? ⟨w.heap.size + 1, 2, none⟩ = false := by simp [World.frozen?, r1]
 have z3 : w4.frozen? ⟨w.heap.size + 1, 3, none⟩ = false := by simp [World.frozen?, r1]
 have z4 : w4.frozen? ⟨w.heap.size + 1, 4, none⟩ = false := by simp [World.frozen?, r1]
 have A4 := hide r1
 have A5 := hide r2
 have A6 := hide hB
 have A7 := hide b0
 have A8 := hide b1
 have A9 := hide b2
 have AA := hide b4
 clear r1 r2 hB b0 b1 b2 b4 hb4 hb4' cP A0 A1 A2 A3
 go_wp2_with (fail)
 have HR := heap_setCell_same _ (w.heap.size + 1) 4 _ _ ((.func (.func 116) #[] #[.pointer (some ⟨(w.heap.size + 1 + 1 + 1) + 1 + 1, 0, none⟩)] : Value)) (heap_setCell_same _ (w.heap.size + 1) 3 _ _ ((.func (.func 115) #[] #[.pointer (some ⟨(w.heap.size + 1 + 1 + 1), 0, none⟩), .pointer (some ⟨(w.heap.size + 1 + 1 + 1) + 1, 0, none⟩)] : Value)) (heap_setCell_same _ (w.heap.size + 1) 2 _ _ ((.func (.func 114) #[] #[.pointer (some ⟨(w.heap.size + 1 + 1 + 1) + 1 + 1 + 1 + 1, 0, none⟩), .pointer (some ⟨(w.heap.size + 1 + 1 + 1), 0, none⟩), .pointer (some ⟨(w.heap.size + 1 + 1 + 1) + 1 + 1, 0, none⟩)] : Value)) (heap_setCell_same _ (w.heap.size + 1) 1 _ _ (.int .i64 wt) (heap_setCell_same w4 (w.heap.size + 1) 0 _ _ (.int .i64 no) A4.out))))
 exact bodyPost_ret (v := .agg #[.int .i64 no, .int .i64 wt, (.func (.func 114) #[] #[.pointer (some ⟨(w.heap.size + 1 + 1 + 1) + 1 + 1 + 1 + 1, 0, none⟩), .pointer (some ⟨(w.heap.size + 1 + 1 + 1), 0, none⟩), .pointer (some ⟨(w.heap.size + 1 + 1 + 1) + 1 + 1, 0, none⟩)] : Value), (.func (.func 115) #[] #[.pointer (some ⟨(w.heap.size + 1 + 1 + 1), 0, none⟩), .pointer (some ⟨(w.heap.size + 1 + 1 + 1) + 1, 0, none⟩)] : Value), (.func (.func 116) #[] #[.pointer (some ⟨(w.heap.size + 1 + 1 + 1) + 1 + 1, 0, none⟩)] : Value)]) (results_cell_row Tryz.results70 _ _ (w.heap.size + 1) _ #[.int .i64 no, .int .i64 wt, (.func (.func 114) #[] #[.pointer (some ⟨(w.heap.size + 1 + 1 + 1) + 1 + 1 + 1 + 1, 0, none⟩), .pointer (some ⟨(w.heap.size + 1 + 1 + 1), 0, none⟩), .pointer (some ⟨(w.heap.size + 1 + 1 + 1) + 1 + 1, 0, none⟩)] : Value), (.func (.func 115) #[] #[.pointer (some ⟨(w.heap.size + 1 + 1 + 1), 0, none⟩), .pointer (some ⟨(w.heap.size + 1 + 1 + 1) + 1, 0, none⟩)] : Value), (.func (.func 116) #[] #[.pointer (some ⟨(w.heap.size + 1 + 1 + 1) + 1 + 1, 0, none⟩)] : Value)] _ _ rfl HR Tryz.underlying114 rfl infoSt) rfl ⟨rfl, (((((A6.out.setCell (by show w.heap.size ≤ w.heap.size + 1; omega) _).setCell (by show w.heap.size ≤ w.heap.size + 1; omega) _).setCell (by show w.heap.size ≤ w.heap.size + 1; omega) _).setCell (by show w.heap.size ≤ w.heap.size + 1; omega) _).setCell (by show w.heap.size ≤ w.heap.size + 1; omega) _),
  Bx.five ⟨_, A5.out⟩ (by omega), Bx.five A7.out (by omega), Bx.five A8.out (by omega), Bx.five A9.out (by omega), Bx.five AA.out (by omega)⟩
set_option maxRecDepth 100000 in
set_option maxHeartbeats 4000000 in
theorem a_ready_flt (no : Int) (x : Nat) (w : World) : Calls Tryz.prog 70 #[.agg #[.int .i64 no, .iface 183 (.agg #[.float .f64 x])]] w fun e w' => e = .returned (.agg #[.int .i64 no, .int .i64 1, (.func (.func 114) #[] #[.pointer (some ⟨(w.heap.size + 1 + 1 + 1) + 1 + 1 + 1 + 1, 0, none⟩), .pointer (some ⟨(w.heap.size + 1 + 1 + 1), 0, none⟩), .pointer (some ⟨(w.heap.size + 1 + 1 + 1) + 1 + 1, 0, none⟩)] : Value), (.func (.func 115) #[] #[.pointer (some ⟨(w.heap.size + 1 + 1 + 1), 0, none⟩), .pointer (some ⟨(w.heap.size + 1 + 1 + 1) + 1, 0, none⟩)] : Value), (.func (.func 116) #[] #[.pointer (some ⟨(w.heap.size + 1 + 1 + 1) + 1 + 1, 0, none⟩)] : Value)]) ∧ Below w.heap.size w w' ∧ Bx w' (w.heap.size + 1 + 1) #[.float .f64 x] ∧ Bx w' (w.heap.size + 1 + 1 + 1) #[.int .i64 no] ∧ Bx w' ((w.heap.size + 1 + 1 + 1) + 1) #[.int .i64 1] ∧ Bx w' ((w.heap.size + 1 + 1 + 1) + 1 + 1) #[.func (.func 92) #[] #[.pointer (some ⟨w.heap.size + 1 + 1, 0, none⟩)]] ∧ Bx w' ((w.heap.size + 1 + 1 + 1) + 1 + 1 + 1 + 1) #[.bool ((1 : Int) == 2)] := by
 have hsz : (((w.alloc (.cells #[.int .i64 no, .iface 183 (.agg #[.float .f64 x])] 138)).alloc (.cells #[.int .i64 0, .int .i64 0, .nilFunc, .nilFunc, .nilFunc] 114)).alloc (.cells #[.float .f64 x] 183)).heap.size = (w.heap.size + 1 + 1 + 1) := by simp
 have cP := a_plain no 1 92 #[.pointer (some ⟨w.heap.size + 1 + 1, 0, none⟩)] (((w.alloc (.cells #[.int .i64 no, .iface 183 (.agg #[.float .f64 x])] 138)).alloc (.cells #[.int .i64 0, .int .i64 0, .nilFunc, .nilFunc, .nilFunc] 114)).alloc (.cells #[.float .f64 x] 183))
 rw [hsz] at cP
 have q1 := xp3_1 w (.cells #[.int .i64 no, .iface 183 (.agg #[.float .f64 x])] 138) (.cells #[.int .i64 0, .int .i64 0, .nilFunc, .nilFunc, .nilFunc] 114) (.cells #[.float .f64 x] 183)
 have q2 := xp3_2 w (.cells #[.int .i64 no, .iface 183 (.agg #[.float .f64 x])] 138) (.cells #[.int .i64 0, .int .i64 0, .nilFunc, .nilFunc, .nilFunc] 114) (.cells #[.float .f64 x] 183)
 have hb := xb3 w (.cells #[.int .i64 no, .iface 183 (.agg #[.float .f64 x])] 138) (.cells #[.int .i64 0, .int .i64 0, .nilFunc, .nilFunc, .nilFunc] 114) (.cells #[.float .f64 x] 183)
 have t0 := ta_floats_numbers (.agg #[.float .f64 x])
 have t1 := ta_floats (.agg #[.float .f64 x])
 have A0 := hide hsz
 have A1 := hide q1
 have A2 := hide q2
 have A3 := hide hb
 clear hsz q1 q2 hb
 go_enter Tryz.func70, Tryz.ntmps70
 go_wp2_with (fail)
 generalize (((w.alloc (.cells #[.int .i64 no, .iface 183 (.agg #[.float .f64 x])] 138)).alloc (.cells #[.int .i64 0, .int .i64 0, .nilFunc, .nilFunc, .nilFunc] 114)).alloc (.cells #[.float .f64 x] 183)) = w3 at *
 refine cP.mono ?_
 rintro e_ w4 ⟨rfl, hb4, b0, b1, b2, b4⟩
 have hb4' : Below w3.heap.size w3 w4 := by rw [A0.out]; exact hb4
 have r1 := keep hb4' A1.out
 have r2 := keep hb4' A2.out
 have hB := Below.after A3.out hb4'
 have n0 : w4.cell? ⟨w.heap.size + 1, 0, none⟩ = some (.int .i64 0) := cell_of_row _ _ _ _ _ _ r1
 have n1 : w4.cell? ⟨w.heap.size + 1, 1, none⟩ = some (.int .i64 0) := cell_of_row _ _ _ _ _ _ r1
 have n2 : w4.cell? ⟨w.heap.size + 1, 2, none⟩ = some .nilFunc := cell_of_row _ _ _ _ _ _ r1
 have n3 : w4.cell? ⟨w.heap.size + 1, 3, none⟩ = some .nilFunc := cell_of_row _ _ _ _ _ _ r1
 have n4 : w4.cell? ⟨w.heap.size + 1, 4, none⟩ = some .nilFunc := cell_of_row _ _ _ _ _ _ r1
 have z0 : w4.frozen? ⟨w.heap.size + 1, 0, none⟩ = false := by simp [World.frozen?, r1]
 have z1 : w4.frozen? ⟨w.heap.size + 1, 1, none⟩ = false := by simp [World.frozen?, r1]
 have z2 : w4.frozen? ⟨w.heap.size + 1, 2, none⟩ = false := by simp [World.frozen?, r1]
 have z3 : w4.frozen? ⟨w.heap.size + 1, 3, none⟩ = false := by simp [World.frozen?, r1]
 have z4 : w4.frozen? ⟨w.heap.size + 1, 4, none⟩ = false := by simp [World.frozen?, r1]
 have A4 := hide r1
 have A5 := hide r2
 have A6 := hide hB
 have A7 := hide b0
 have A8 := hide b1
 have A9 := hide b2
 have AA := hide b4
 clear r1 r2 hB b0 b1 b2 b4 hb4 hb4' cP A0 A1 A2 A3
 go_wp2_with (fail)
 have HR := heap_setCell_same _ (w.heap.size + 1) 4 _ _ ((.func (.func 116) #[] #[.pointer (some ⟨(w.heap.size + 1 + 1 + 1) + 1 + 1, 0, none⟩)] : Value)) (heap_setCell_same _ (w.heap.size + 1) 3 _ _ ((.func (.func 115) #[] #[.pointer (some ⟨(w.heap.size + 1 + 1 + 1), 0, none⟩), .pointer (some ⟨(w.heap.size + 1 + 1 + 1) + 1, 0, none⟩)] : Value)) (heap_setCell_same _ (w.heap.size + 1) 2 _ _ ((.func (.func 114) #[] #[.pointer (some ⟨(w.heap.size + 1 + 1 + 1) + 1 + 1 + 1 + 1, 0, none⟩), .pointer (some ⟨(w.heap.size + 1 + 1 + 1), 0, none⟩), .pointer (some ⟨(w.heap.size + 1 + 1 + 1) + 1 + 1, 0, none⟩)] : Value)) (heap_setCell_same _ (w.heap.size + 1) 1 _ _ (.int .i64 1) (heap_setCell_same w4 (w.heap.size + 1) 0 _ _ (.int .i64 no) A4.out))))
 exact bodyPost_ret (v := .agg #[.int .i64 no, .int .i64 1, (.func (.func 114) #[] #[.pointer (some ⟨(w.heap.size + 1 + 1 + 1) + 1 + 1 + 1 + 1, 0, none⟩), .pointer (some ⟨(w.heap.size + 1 + 1 + 1), 0, none⟩), .pointer (some ⟨(w.heap.size + 1 + 1 + 1) + 1 + 1, 0, none⟩)] : Value), (.func (.func 115) #[] #[.pointer (some ⟨(w.heap.size + 1 + 1 + 1), 0, none⟩), .pointer (some ⟨(w.heap.size + 1 + 1 + 1) + 1, 0, none⟩)] : Value), (.func (.func 116) #[] #[.pointer (some ⟨(w.heap.size + 1 + 1 + 1) + 1 + 1, 0, none⟩)] : Value)]) (results_cell_row Tryz.results70 _ _ (w.heap.size + 1) _ #[.int .i64 no, .int .i64 1, (.func (.func 114) #[] #[.pointer (some ⟨(w.heap.size + 1 + 1 + 1) + 1 + 1 + 1 + 1, 0, none⟩), .pointer (some ⟨(w.heap.size + 1 + 1 + 1), 0, none⟩), .pointer (some ⟨(w.heap.size + 1 + 1 + 1) + 1 + 1, 0, none⟩)] : Value), (.func (.func 115) #[] #[.pointer (some ⟨(w.heap.size + 1 + 1 + 1), 0, none⟩), .pointer (some ⟨(w.heap.size + 1 + 1 + 1) + 1, 0, none⟩)] : Value), (.func (.func 116) #[] #[.pointer (some ⟨(w.heap.size + 1 + 1 + 1) + 1 + 1, 0, none⟩)] : Value)] _ _ rfl HR Tryz.underlying114 rfl infoSt) rfl ⟨rfl, (((((A6.out.setCell (by show w.heap.size ≤ w.heap.size + 1; omega) _).setCell (by show w.heap.size ≤ w.heap.size + 1; omega) _).setCell (by show w.heap.size ≤ w.heap.size + 1; omega) _).setCell (by show w.heap.size ≤ w.heap.size + 1; omega) _).setCell (by show w.heap.size ≤ w.heap.size + 1; omega) _),
  Bx.five ⟨_, A5.out⟩ (by omega), Bx.five A7.out (by omega), Bx.five A8.out (by omega), Bx.five A9.out (by omega), Bx.five AA.out (by omega)⟩
set_option maxRecDepth 100000 in
set_option maxHeartbeats 4000000 in
theorem a_ready_oct (no : Int) (l m : Int) (b : Bool) (w : World) : Calls Tryz.prog 70 #[.agg #[.int .i64 no, .iface 186 (.agg #[.int .u64 l, .int .u64 m, .bool b])]] w fun e w' => e = .returned (.agg #[.int .i64 no, .int .i64 2, (.func (.func 114) #[] #[.pointer (some ⟨(w.heap.size + 1 + 1 + 1) + 1 + 1 + 1 + 1, 0, none⟩), .pointer (some ⟨(w.heap.size + 1 + 1 + 1), 0, none⟩), .pointer (some ⟨(w.heap.size + 1 + 1 + 1) + 1 + 1, 0, none⟩)] : Value), (.func (.func 115) #[] #[.pointer (some ⟨(w.heap.size + 1 + 1 + 1), 0, none⟩), .pointer (some ⟨(w.heap.size + 1 + 1 + 1) + 1, 0, none⟩)] : Value), (.func (.func 116) #[] #[.pointer (some ⟨(w.heap.size + 1 + 1 + 1) + 1 + 1, 0, none⟩)] : Value)]) ∧ Below w.heap.size w w' ∧ Bx w' (w.heap.size + 1 + 1) #[.int .u64 l, .int .u64 m, .bool b] ∧ Bx w' (w.heap.size + 1 + 1 + 1) #[.int .i64 no] ∧ Bx w' ((w.heap.size + 1 + 1 + 1) + 1) #[.int .i64 2] ∧ Bx w' ((w.heap.size + 1 + 1 + 1) + 1 + 1) #[.func (.func 94) #[] #[.pointer (some ⟨w.heap.size + 1 + 1, 0, none⟩)]] ∧ Bx w' ((w.heap.size + 1 + 1 + 1) + 1 + 1 + 1 + 1) #[.bool ((2 : Int) == 2)] := by
 have hsz : (((w.alloc (.cells #[.int .i64 no, .iface 186 (.agg #[.int .u64 l, .int .u64 m, .bool b])] 138)).alloc (.cells #[.int .i64 0, .int .i64 0, .nilFunc, .nilFunc, .nilFunc] 114)).alloc (.cells #[.int .u64 l, .int .u64 m, .bool b] 186)).heap.size = (w.heap.size + 1 + 1 + 1) := by simp
 have cP := a_plain no 2 94 #[.pointer (some ⟨w.heap.size + 1 + 1, 0, none⟩)] (((w.alloc (.cells #[.int .i64 no, .iface 186 (.agg #[.int .u64 l, .int .u64 m, .bool b])] 138)).alloc (.cells #[.int .i64 0, .int .i64 0, .nilFunc, .nilFunc, .nilFunc] 114)).alloc (.cells #[.int .u64 l, .int .u64 m, .bool b] 186))
 rw [hsz] at cP
 have q1 := xp3_1 w (.cells #[.int .i64 no, .iface 186 (.agg #[.int .u64 l, .int .u64 m, .bool b])] 138) (.cells #[.int .i64 0, .int .i64 0, .nilFunc, .nilFunc, .nilFunc] 114) (.cells #[.int .u64 l, .int .u64 m, .bool b] 186)
 have q2 := xp3_2 w (.cells #[.int .i64 no, .iface 186 (.agg #[.int .u64 l, .int .u64 m, .bool b])] 138) (.cells #[.int .i64 0, .int .i64 0, .nilFunc, .nilFunc, .nilFunc] 114) (.cells #[.int .u64 l, .int .u64 m, .bool b] 186)
 have hb := xb3 w (.cells #[.int .i64 no, .iface 186 (.agg #[.int .u64 l, .int .u64 m, .bool b])] 138) (.cells #[.int .i64 0, .int .i64 0, .nilFunc, .nilFunc, .nilFunc] 114) (.cells #[.int .u64 l, .int .u64 m, .bool b] 186)
 have t0 := ta_octets_numbers (.agg #[.int .u64 l, .int .u64 m, .bool b])
 have t1 := ta_octets_floats (.agg #[.int .u64 l, .int .u64 m, .bool b])
 have t2 := ta_octets (.agg #[.int .u64 l, .int .u64 m, .bool b])
 have A0 := hide hsz
 have A1 := hide q1
 have A2 := hide q2
 have A3 := hide hb
 clear hsz q1 q2 hb
 go_enter Tryz.func70, Tryz.ntmps70
 go_wp2_with (fail)
 generalize (((w.alloc (.cells #[.int .i64 no, .iface 186 (.agg #[.int .u64 l, .int .u64 m, .bool b])] 138)).alloc (.cells #[.int .i64 0, .int .i64 0, .nilFunc, .nilFunc, .nilFunc] 114)).alloc (.cells #[.int .u64 l, .int .u64 m, .bool b] 186)) = w3 at *
 refine cP.mono ?_
 rintro e_ w4 ⟨rfl, hb4, b0, b1, b2, b4⟩
 have hb4' : Below w3.heap.size w3 w4 := by rw [A0.out]; exact hb4
 have r1 := keep hb4' A1.out
 have r2 := keep hb4' A2.out
 have hB := Below.after A3.out hb4'
 have n0 : w4.cell? ⟨w.heap.size + 1, 0, none⟩ = some (.int .i64 0) := cell_of_row _ _ _ _ _ _ r1
 have n1 : w4.cell? ⟨w.heap.size + 1, 1, none⟩ = some (.int .i64 0) := cell_of_row _ _ _ _ _ _ r1
 have n2 : w4.cell? ⟨w.heap.size + 1, 2, none⟩ = some .nilFunc := cell_of_row _ _ _ _ _ _ r1
 have n3 : w4.cell? ⟨w.heap.size + 1, 3, none⟩ = some .nilFunc := cell_of_row _ _ _ _ _ _ r1
 have n4 : w4.cell? ⟨w.heap.size + 1, 4, none⟩ = some .nilFunc := cell_of_row _ _ _ _ _ _ r1
 have z0 : w4.frozen? ⟨w.heap.size + 1, 0, none⟩ = false := by simp [World.frozen?, r1]
 have z1 : w4.frozen? ⟨w.heap.size + 1, 1, none⟩ = false := by simp [World.frozen?, r1]
 have z2 : w4.frozen? ⟨w.heap.size + 1, 2, none⟩ = false := by simp [World.frozen?, r1]
 have z3 : w4.frozen? ⟨w.heap.size + 1, 3, none⟩ = false := by simp [World.frozen?, r1]
 have z4 : w4.frozen? ⟨w.heap.size + 1, 4, none⟩ = false := by simp [World.frozen?, r1]
 have A4 := hide r1
 have A5 := hide r2
 have A6 := hide hB
 have A7 := hide b0
 have A8 := hide b1
 have A9 := hide b2
 have AA := hide b4
 clear r1 r2 hB b0 b1 b2 b4 hb4 hb4' cP A0 A1 A2 A3
 go_wp2_with (fail)
 have HR := heap_setCell_same _ (w.heap.size + 1) 4 _ _ ((.func (.func 116) #[] #[.pointer (some ⟨(w.heap.size + 1 + 1 + 1) + 1 + 1, 0, none⟩)] : Value)) (heap_setCell_same _ (w.heap.size + 1) 3 _ _ ((.func (.func 115) #[] #[.pointer (some ⟨(w.heap.size + 1 + 1 + 1), 0, none⟩), .pointer (some ⟨(w.heap.size + 1 + 1 + 1) + 1, 0, none⟩)] : Value)) (heap_setCell_same _ (w.heap.size + 1) 2 _ _ ((.func (.func 114) #[] #[.pointer (some ⟨(w.heap.size + 1 + 1 + 1) + 1 + 1 + 1 + 1, 0, none⟩), .pointer (some ⟨(w.heap.size + 1 + 1 + 1), 0, none⟩), .pointer (some ⟨(w.heap.size + 1 + 1 + 1) + 1 + 1, 0, none⟩)] : Value)) (heap_setCell_same _ (w.heap.size + 1) 1 _ _ (.int .i64 2) (heap_setCell_same w4 (w.heap.size + 1) 0 _ _ (.int .i64 no) A4.out))))
 exact bodyPost_ret (v := .agg #[.int .i64 no, .int .i64 2, (.func (.func 114) #[] #[.pointer (some ⟨(w.heap.size + 1 + 1 + 1) + 1 + 1 + 1 + 1, 0, none⟩), .pointer (some ⟨(w.heap.size + 1 + 1 + 1), 0, none⟩), .pointer (some ⟨(w.heap.size + 1 + 1 + 1) + 1 + 1, 0, none⟩)] : Value), (.func (.func 115) #[] #[.pointer (some ⟨(w.heap.size + 1 + 1 + 1), 0, none⟩), .pointer (some ⟨(w.heap.size + 1 + 1 + 1) + 1, 0, none⟩)] : Value), (.func (.func 116) #[] #[.pointer (some ⟨(w.heap.size + 1 + 1 + 1) + 1 + 1, 0, none⟩)] : Value)]) (results_cell_row Tryz.results70 _ _ (w.heap.size + 1) _ #[.int .i64 no, .int .i64 2, (.func (.func 114) #[] #[.pointer (some ⟨(w.heap.size + 1 + 1 + 1) + 1 + 1 + 1 + 1, 0, none⟩), .pointer (some ⟨(w.heap.size + 1 + 1 + 1), 0, none⟩), .pointer (some ⟨(w.heap.size + 1 + 1 + 1) + 1 + 1, 0, none⟩)] : Value), (.func (.func 115) #[] #[.pointer (some ⟨(w.heap.size + 1 + 1 + 1), 0, none⟩), .pointer (some ⟨(w.heap.size + 1 + 1 + 1) + 1, 0, none⟩)] : Value), (.func (.func 116) #[] #[.pointer (some ⟨(w.heap.size + 1 + 1 + 1) + 1 + 1, 0, none⟩)] : Value)] _ _ rfl HR Tryz.underlying114 rfl infoSt) rfl ⟨rfl, (((((A6.out.setCell (by show w.heap.size ≤ w.heap.size + 1; omega) _).setCell (by show w.heap.size ≤ w.heap.size + 1; omega) _).setCell (by show w.heap.size ≤ w.heap.size + 1; omega) _).setCell (by show w.heap.size ≤ w.heap.size + 1; omega) _).setCell (by show w.heap.size ≤ w.heap.size + 1; omega) _),
  Bx.five ⟨_, A5.out⟩ (by omega), Bx.five A7.out (by omega), Bx.five A8.out (by omega), Bx.five A9.out (by omega), Bx.five AA.out (by omega)⟩
end Go.Proofs.YtejcggjmbjmoeaaGreatDoor

