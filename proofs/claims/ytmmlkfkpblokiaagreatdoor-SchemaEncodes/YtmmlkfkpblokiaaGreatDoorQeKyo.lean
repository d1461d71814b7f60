import Derived.Test.YtmmlkfkpblokiaaGreatDoorQeKyn
import Derived.Test.YtmmlkfkpblokiaaGreatDoorQeKti
import Derived.Test.YtmmlkfkpblokiaaGreatDoorQeKtr
import Derived.Test.YtmmlkfkpblokiaaGreatDoorQeUc
import Derived.Test.YtmmlkfkpblokiaaGreatDoorQeKye
import Derived.Test.YtmmlkfkpblokiaaGreatDoorProg
import Derived.WalkKit
import Derived.LaidEql
import Derived.Stop.Asserts
import Derived.RowKitTokens
import Derived.Test.YtmmlkfkpblokiaaGreatDoorQeWr
import Derived.OwnWalk
import Derived.Deep.Cut
import Derived.Deep.RegionHeld3
namespace Go.Proofs.YtmmlkfkpblokiaaGreatDoor
set_option maxRecDepth 100000
open Go Go.RowKit Go.Sort
theorem r_encodeA : ∀ (m : Nat) (ts : List Slt), htT ts ≤ (m : Int) → gd ts → ∀ (L : Nat) (sv : Value) (x : VR) (X : VT) (w : World), Slo w sv ts → VtM w (fun b => b < L) x X → X.parts.length = ts.length → wfT ts X.parts → lnT ts X.parts → L ≤ w.heap.size →
 Calls Tryz.prog 36 #[sv, .agg (vrv x)] w fun e w' => ∃ u, e = .returned u ∧ Own w' w.heap.size u (enT ts X) ∧ Below w.heap.size w w' := by
 intro m
 induction m with
 | zero =>
  intro ts hh hg L sv x X w h hX hlx hwf hln hL
  refine r_encodeN L x X w h hX hg hlx hwf hln hL (fun k hk => ?_)
  have := htT_sub ts k hk
  have := htT_pos (gs ts k).sub
  omega
 | succ m ih =>
  intro ts hh hg L sv x X w h hX hlx hwf hln hL
  refine r_encodeN L x X w h hX hg hlx hwf hln hL (fun k hk hn u y Y V hV hu hY hyl hyw hyn => ?_)
  have hs := htT_sub ts k hk
  have hgk := (gd_at ts k hk hg).2
  exact ih (gs ts k).sub (by omega) (gd_subs hgk.1 hgk.2) L u y Y V hu hY hyl hyw hyn (Nat.le_trans hL hV.size)
section
variable (utf : List B → Bool) (flE : Nat → Nat → Int)
theorem ln_ck : ∀ (ts : List Slt) (xs : List VT) (deep : Int), chT utf flE ts xs deep = none → xs.length = ts.length → lnT ts xs
 | [], xs, deep, _, _ => by rw [lnT]; exact trivial; intros; contradiction
 | _ :: _, [], _, _, h => by simp at h
 | .mk no k l m sub :: ts, x :: xs, deep, h, hl => by
  rw [chT_cons] at h
  cases hs : slT utf flE (.mk no k l m sub) x deep with
  | some f => rw [hs] at h; cases h
  | none =>
   rw [hs] at h
   rw [lnT_cons]
   refine ⟨fun hk => ?_, fun hk => ?_, ln_ck ts xs deep h (by simpa using hl)⟩
   ·rw [slT_msg utf flE hk] at hs
    obtain ⟨_, _, h3, h4⟩ := ck_none utf flE hs
    exact ln_ck sub x.parts _ h4 h3
   ·rw [slT_lst utf flE hk] at hs
    split at hs
    ·cases hs
    ·rename_i h0
     split at hs
     ·cases hs
     ·refine ⟨by omega, fun p hp => ?_⟩
      obtain ⟨_, _, h3, h4⟩ := ck_none utf flE (frs_none hs p hp)
      exact ln_ck sub p.parts _ h4 h3
end
end Go.Proofs.YtmmlkfkpblokiaaGreatDoor
namespace Go.Proofs.YtmmlkfkpblokiaaGreatDoor
set_option maxRecDepth 100000
open Go Go.RowKit Go.Sort
attribute [local go_sem] setCell_drewN alloc_drewN
inductive SlL (W : World) (S : Nat → Prop) : Value → List Slt → Prop
 | mk (ao : Option Addr) (cap : Nat) (ts : List Slt) (us : List Value) (hl : ts.length ≤ 2932031007317) (hc : ts.length ≤ cap) (hn : ao = none → cap = 0)
  (h : ∀ i, i < ts.length → ∃ b off, ao = some ⟨b, off, none⟩ ∧ b < W.heap.size ∧ S b ∧ W.rangeAt b (off + i * 5) (srow (gs ts i) (gvs us i)) ∧ Sok (gs ts i))
  (hs : ∀ i, i < ts.length → SlL W S (gvs us i) (gs ts i).sub) : SlL W S (.slice ao ts.length cap) ts
theorem SlL.slo {W : World} {S : Nat → Prop} {v : Value} {ts : List Slt} (h : SlL W S v ts) : Slo W v ts := by
 induction h with
 | mk ao cap ts us hl hc hn h hs ih =>
  refine .mk ao cap ts us hl hc hn (fun i hi => ?_) ih
  obtain ⟨b, off, h1, h2, _, h4, h5⟩ := h i hi
  exact ⟨b, off, h1, h2, h4, h5⟩
theorem SlL.keep {W V : World} {S T : Nat → Prop} {v : Value} {ts : List Slt} (h : SlL W S v ts) (hs : W.heap.size ≤ V.heap.size) (hb : ∀ b, b < W.heap.size → S b → V.heap[b]? = W.heap[b]? ∧ T b) : SlL V T v ts := by
 induction h with
 | mk ao cap ts us hl hc hn h _ ih =>
  refine .mk ao cap ts us hl hc hn (fun i hi => ?_) ih
  obtain ⟨b, off, h1, h2, h3, h4, h5⟩ := h i hi
  exact ⟨b, off, h1, by omega, (hb b h2 h3).2, range_same h4 (hb b h2 h3).1, h5⟩
theorem SlL.form {W : World} {S : Nat → Prop} {v : Value} {ts : List Slt} (h : SlL W S v ts) : ∃ ao cap, v = .slice ao ts.length cap := by
 cases h
 exact ⟨_, _, rfl⟩
def scl : List Slt → List Value → List Value
 | t :: ts, u :: us => srow t u ++ scl ts us
 | _, _ => []
theorem scl_snoc : ∀ (ts : List Slt) (us : List Value) (t : Slt) (u : Value), ts.length = us.length → scl (ts ++ [t]) (us ++ [u]) = scl ts us ++ srow t u
 | [], [], _, _, _ => by simp [scl]
 | [], _ :: _, _, _, h => by simp at h
 | _ :: _, [], _, _, h => by simp at h
 | t :: ts, u :: us, t', u', h => by
  have := scl_snoc ts us t' u' (by simpa using h)
  simp only [List.cons_append, scl, this, List.append_assoc]
theorem scl_at : ∀ (ts : List Slt) (us : List Value) (i c : Nat), ts.length = us.length → i < ts.length → c < 5 → (scl ts us)[i * 5 + c]? = (srow (gs ts i) (gvs us i))[c]?
 | [], _, _, _, _, h, _ => by simp at h
 | _ :: _, [], _, _, h, _, _ => by simp at h
 | t :: ts, u :: us, 0, c, _, _, hc => by
  rw [scl, List.getElem?_append_left (by show 0 * 5 + c < 5; omega), Nat.zero_mul, Nat.zero_add]; rfl
 | t :: ts, u :: us, i + 1, c, h, hi, hc => by
  have := scl_at ts us i c (by simpa using h) (by simpa using hi) hc
  rw [scl, List.getElem?_append_right (by show 5 ≤ (i + 1) * 5 + c; omega), show (i + 1) * 5 + c - (srow t u).length = i * 5 + c by show (i + 1) * 5 + c - 5 = _; omega]
  exact this
theorem sll_of {w : World} {base : Nat} {v : Value} {ts : List Slt} {us : List Value} (hO : w.ownsRow base 88 5 v ts.length (scl ts us)) (hl : ts.length = us.length) (h16 : ts.length ≤ 10000) (hok : ∀ i, i < ts.length → Sok (gs ts i)) (hs : ∀ i, i < ts.length → SlL w (fun b => base ≤ b) (gvs us i) (gs ts i).sub) : SlL w (fun b => base ≤ b) v ts := by
 rcases hO.2 with ⟨rfl, h0⟩ | ⟨g, cap, cur, rfl, h1, h2, h3, _⟩
 ·have e : ts = [] := List.length_eq_zero_iff.1 h0
  subst e
  exact .mk none 0 [] us (by simp) (by simp) (fun _ => rfl) (fun i hi => by simp at hi) (fun i hi => by simp at hi)
 ·refine .mk (some ⟨g, 0, none⟩) cap ts us (by omega) h3 (fun e => by cases e) (fun i hi => ⟨g, 0, rfl, (Array.getElem?_eq_some_iff.1 h2).1, h1, ?_, hok i hi⟩) hs
  have hc : ∀ j u, (scl ts us)[j]? = some u → w.cell? ((⟨g, 0, none⟩ : Addr).add j) = some u := hO.cells (g := g) rfl
  intro j x hx
  have hj : j < 5 := (List.getElem?_eq_some_iff.1 hx).1
  have := hc (i * 5 + j) x (by rw [scl_at ts us i j hl hi hj]; exact hx)
  rw [add_off] at this
  rw [Nat.zero_add]
  exact this
theorem wpList_append_sl {w : World} {ops : Array Oper} {rest : List Oper} {o : Oper} {a : Act} {Q : Exit → Act → World → Prop} (hgd : o.guard = none) (s x : Operand)
 (ho : o.op = .call { callee := .builtin .append, args := #[s, x], argTypes := #[22, 22] })
 (base : Nat) (v : Value) (k : Nat) (xs : List Value) (hs : a.eval s = v) (hO : w.ownsRow base 88 5 v k xs) (hk : k ≤ 10000)
 (cs : List Value) (hcl : cs.length = 5) (g : Nat) (hx : a.eval x = .slice (some ⟨g, 0, none⟩) 1 1) (hnews : ∀ j y, cs[j]? = some y → w.cell? ((⟨g, 0, none⟩ : Addr).add j) = some y) (h1 : ∀ u ∈ cs, u.oneCell' = true)
 (hbase : base ≤ w.heap.size)
 (h : ∀ v' w', w'.ownsRow base 88 5 v' (k + 1) (xs ++ cs) → w.grownBy w' v.ownBlock → Nx w v v' → wpList Tryz.prog ops Q rest (a.put o.dst v') w') : wpList Tryz.prog ops Q (o :: rest) a w := by
 obtain ⟨i0, hi, hz0, hz1, hz2⟩ := infoSl
 exact wpList_plain hgd fun _ hK => wp_append_nx s x 22 ho base 88 i0 _ 5 56 Tryz.underlying22 hi hz0 hz1 hz2 rfl (by decide) v k xs hs hO ⟨g, 0, none⟩ 1 1 cs hx (by rw [hcl]) hnews h1 (by unfold maxLen; omega) (by omega) hbase (fun v' w' h2 h3 h4 => hK _ _ (h v' w' h2 h3 h4))
set_option maxRecDepth 100000 in
set_option maxHeartbeats 16000000 in
theorem r_twin {W : World} {v : Value} {ts : List Slt} (h : Slo W v ts) : ∀ (l : Int), l ≤ 10000 → 0 ≤ slL ts l → ∀ (w : World), Below W.heap.size W w → Calls Tryz.prog 45 #[v] w fun e w' => ∃ v', e = .returned v' ∧ Below w.heap.size w w' ∧ SlL w' (fun b => w.heap.size ≤ b) v' ts := by
 induction h with
 | mk ao cap ts us hl hc hn h hs ih =>
  intro l hl1 hl2 w hw
  have hlen := slL_len ts l hl2
  have h4 : ts.length ≤ 10000 := by omega
  go_enter Tryz.func45, Tryz.ntmps45
  go_wp2_with (fail)
  go_loopw [3, 4] (fun out i wr => ∃ (k : Nat) (vs : List Value), k ≤ ts.length ∧ i = .int .i64 k ∧ Below w.heap.size w wr ∧ vs.length = k ∧ wr.ownsRow w.heap.size 88 5 out k (scl (ts.take k) vs) ∧ ∀ i, i < k → SlL wr (fun b => w.heap.size ≤ b ∧ out.ownBlock ≠ some b) (gvs vs i) (gs ts i).sub) (fun _ i _ => ts.length - (intOf i).toNat)
  case atStart => exact ⟨0, [], by omega, rfl, Below.refl _ _, rfl, ⟨rfl, .inl ⟨rfl, rfl⟩⟩, fun i hi => by omega⟩
  case round =>
   obtain ⟨k, vs, hk, rfl, hb, hvl, hO, hN⟩ := hrel
   obtain ⟨mo, mc, rfl⟩ := own_slice hO
   have hww := Below.after hw hb
   by_cases hlt : k < ts.length
   ·have hd : decide ((k : Int) < (ts.length : Int)) = true := by simp; omega
    have hk1 : 0 ≤ (k : Int) ∧ (k : Int) < (ts.length : Int) := by omega
    obtain ⟨b, off, hao, hbl, hra, hok⟩ := h k hlt
    have hSl := hs k hlt
    obtain ⟨l', hl3, hl4⟩ := slL_at ts l k hl2 hlt
    have hih := ih k hlt l' (by omega) hl4
    subst hao
    have hgs : ts.take (k + 1) = ts.take k ++ [gs ts k] := by
     rw [List.take_succ_eq_append_getElem hlt, gs, List.getD_eq_getElem?_getD, List.getElem?_eq_getElem hlt]; rfl
    obtain ⟨ua, uc, hue⟩ := hSl.form
    have hrw := rangeS_keep2 hra hww hbl
    generalize hgt : gs ts k = t at *
    replace hgt := hide hgt
    generalize gvs us k = u at *
    subst hue
    have b0 := hrw 0 _ rfl
    have b1 := hrw 1 _ rfl
    have b2 := hrw 2 _ rfl
    have b3 := hrw 3 _ rfl
    have b4 := hrw 4 _ rfl
    rw [Nat.add_zero] at b0
    have r1 := hp1_0 wr (.cells #[.int .i64 t.no, .int .i64 t.kind, .int .u64 (t.least : Int), .int .u64 (t.most : Int), .slice ua t.sub.length uc] 88)
    have hba : Below wr.heap.size wr (wr.alloc (.cells #[.int .i64 t.no, .int .i64 t.kind, .int .u64 (t.least : Int), .int .u64 (t.most : Int), .slice ua t.sub.length uc] 88)) := (Below.refl _ _).alloc (Nat.le_refl _) _
    have hs1 : (wr.alloc (.cells #[.int .i64 t.no, .int .i64 t.kind, .int .u64 (t.least : Int), .int .u64 (t.most : Int), .slice ua t.sub.length uc] 88)).heap.size = wr.heap.size + 1 := size_alloc1 _ _
    have cT := hih (wr.alloc (.cells #[.int .i64 t.no, .int .i64 t.kind, .int .u64 (t.least : Int), .int .u64 (t.most : Int), .slice ua t.sub.length uc] 88)) (Below.after hww hba)
    have A1 := hide r1
    have A2 := hide hba
    have A3 := hide hs1
    have A4 := hide hO
    have A5 := hide hN
    have A6 := hide hb
    clear h hs ih hra hrw r1 hba hs1 hO hN hb hww hih hSl
    go_wp2_with (fail)
    generalize (wr.alloc (.cells #[.int .i64 t.no, .int .i64 t.kind, .int .u64 (t.least : Int), .int .u64 (t.most : Int), .slice ua t.sub.length uc] 88)) = w1 at *
    refine cT.mono ?_
    rintro e_ w2 ⟨x, rfl, hb2, hx⟩
    clear cT b0 b1 b2 b3 b4
    obtain ⟨xa, xc, rfl⟩ := hx.form
    have hs1 := A3.out
    have r2 := keep hb2 A1.out
    have n4 : w2.cell? ⟨wr.heap.size, 4, none⟩ = some (.slice ua t.sub.length uc) := cell_of_row _ _ _ _ _ _ r2
    have n0 : w2.cell? ⟨wr.heap.size, 0, none⟩ = some (.int .i64 t.no) := cell_of_row _ _ _ _ _ _ r2
    have n1 : w2.cell? ⟨wr.heap.size, 1, none⟩ = some (.int .i64 t.kind) := cell_of_row _ _ _ _ _ _ r2
    have n2 : w2.cell? ⟨wr.heap.size, 2, none⟩ = some (.int .u64 (t.least : Int)) := cell_of_row _ _ _ _ _ _ r2
    have n3 : w2.cell? ⟨wr.heap.size, 3, none⟩ = some (.int .u64 (t.most : Int)) := cell_of_row _ _ _ _ _ _ r2
    have z4 : w2.frozen? ⟨wr.heap.size, 4, none⟩ = false := by simp [World.frozen?, r2]
    have hbb := Below.after A2.out hb2
    have hs2 := hb2.size
    have hsS : (w2.setCell ⟨wr.heap.size, 4, none⟩ (.slice xa t.sub.length xc)).heap.size = w2.heap.size := by simp
    have hb3 : Below wr.heap.size wr (w2.setCell ⟨wr.heap.size, 4, none⟩ (.slice xa t.sub.length xc)) := hbb.setCell (Nat.le_refl _) _
    have hB3 := Below.after A6.out hb3
    have hO3 := own_but (w' := (w2.setCell ⟨wr.heap.size, 4, none⟩ (.slice xa t.sub.length xc))) A4.out fun q hq => hb3.block q (own_lt A4.out q hq).2
    have hN3 : ∀ i, i < k → SlL (w2.setCell ⟨wr.heap.size, 4, none⟩ (.slice xa t.sub.length xc)) (fun b => w.heap.size ≤ b ∧ (Value.slice mo k mc).ownBlock ≠ some b ∧ b < (w2.setCell ⟨wr.heap.size, 4, none⟩ (.slice xa t.sub.length xc)).heap.size) (gvs vs i) (gs ts i).sub := fun i hi => (A5.out i hi).keep hb3.size fun q h1 h2 => ⟨hb3.block q h1, h2.1, h2.2, by omega⟩
    have hown := own_lt A4.out
    have hwr := A6.out.size
    have hx3 : SlL (w2.setCell ⟨wr.heap.size, 4, none⟩ (.slice xa t.sub.length xc)) (fun b => w.heap.size ≤ b ∧ (Value.slice mo k mc).ownBlock ≠ some b ∧ b < (w2.setCell ⟨wr.heap.size, 4, none⟩ (.slice xa t.sub.length xc)).heap.size) (.slice xa t.sub.length xc) t.sub := hx.keep (by omega) fun q h1 h2 => ⟨heap_setCell_other _ _ q _ (by show q ≠ wr.heap.size; omega), by omega, fun e => by have := (hown q e).2; omega, by omega⟩
    have hsz3 : w.heap.size ≤ (w2.setCell ⟨wr.heap.size, 4, none⟩ (.slice xa t.sub.length xc)).heap.size := hB3.size
    have A7 := hide hO3
    have A8 := hide hN3
    have A9 := hide hx3
    have AA := hide hB3
    have AB := hide hsz3
    have AC := hide hsS
    clear hO3 hN3 hx3 hB3 hsz3 hb3 hbb hs2 hsS hb2 hx r2 A1 A2 A3 A4 A5 A6 hs1 hown hwr
    go_wp2_with (at_builtin; suffices h9 : True ∧ _ from h9.2)
    refine ⟨trivial, ?_⟩
    generalize (w2.setCell ⟨wr.heap.size, 4, none⟩ (.slice xa t.sub.length xc)) = w3 at *
    clear n0 n1 n2 n3 n4 z4
    have cN1 := hp1_0 w3 (.cells #[.int .i64 t.no, .int .i64 t.kind, .int .u64 (t.least : Int), .int .u64 (t.most : Int), .slice xa t.sub.length xc] 88)
    have hnc : ∀ j y, [.int .i64 t.no, .int .i64 t.kind, .int .u64 (t.least : Int), .int .u64 (t.most : Int), .slice xa t.sub.length xc][j]? = some y → (w3.alloc (.cells #[.int .i64 t.no, .int .i64 t.kind, .int .u64 (t.least : Int), .int .u64 (t.most : Int), .slice xa t.sub.length xc] 88)).cell? ((⟨w2.heap.size, 0, none⟩ : Addr).add j) = some y := fun j y hy => by
     rw [add_off, ← AC.out, cell_of_row _ _ _ _ _ _ cN1]
     simpa using hy
    have hba2 : Below w3.heap.size w3 (w3.alloc (.cells #[.int .i64 t.no, .int .i64 t.kind, .int .u64 (t.least : Int), .int .u64 (t.most : Int), .slice xa t.sub.length xc] 88)) := (Below.refl _ _).alloc (Nat.le_refl _) _
    have hO4 := own_but (w' := w3.alloc (.cells #[.int .i64 t.no, .int .i64 t.kind, .int .u64 (t.least : Int), .int .u64 (t.most : Int), .slice xa t.sub.length xc] 88)) A7.out fun q hq => hba2.block q (own_lt A7.out q hq).2
    have hone : ∀ x ∈ ([.int .i64 t.no, .int .i64 t.kind, .int .u64 (t.least : Int), .int .u64 (t.most : Int), .slice xa t.sub.length xc] : List Value), x.oneCell' = true := fun x hx => by
     simp at hx
     rcases hx with rfl | rfl | rfl | rfl | rfl <;> rfl
    have hwS := AB.out
    refine wpList_append_sl rfl (.tmp 20) (.tmp 22) rfl w.heap.size _ k _ rfl hO4 (by omega) [.int .i64 t.no, .int .i64 t.kind, .int .u64 (t.least : Int), .int .u64 (t.most : Int), .slice xa t.sub.length xc] rfl w2.heap.size rfl hnc hone (by rw [size_alloc1]; omega) ?_
    intro v' w4 h1 h2 h3
    have hsA : (w3.alloc (.cells #[.int .i64 t.no, .int .i64 t.kind, .int .u64 (t.least : Int), .int .u64 (t.most : Int), .slice xa t.sub.length xc] 88)).heap.size = w3.heap.size + 1 := size_alloc1 _ _
    have hown := own_lt A7.out
    have hB4 : Below w.heap.size w w4 := (AA.out.trans (hba2.mono hwS)).grown h2 (by omega) (fun q hq => (hown q hq).1)
    have hs34 : w3.heap.size ≤ w4.heap.size := Nat.le_trans hba2.size h2.size
    have hS4 : ∀ q, q < w3.heap.size → (w.heap.size ≤ q ∧ (Value.slice mo k mc).ownBlock ≠ some q ∧ q < w3.heap.size) → w4.heap[q]? = w3.heap[q]? ∧ (w.heap.size ≤ q ∧ v'.ownBlock ≠ some q) := fun q h4 h5 =>
     ⟨(h2.block q (by omega) (fun e => h5.2.1 e.symm)).trans (hba2.block q h4), h5.1, h3.ne (by omega) h5.2.1⟩
    have hN4 : ∀ i, i < k + 1 → SlL w4 (fun b => w.heap.size ≤ b ∧ v'.ownBlock ≠ some b) (gvs (vs ++ [.slice xa t.sub.length xc]) i) (gs ts i).sub := fun i hi => by
     rcases Nat.lt_or_ge i k with h6 | h6
     ·rw [gvs_low _ _ _ (by omega)]
      exact (A8.out i h6).keep hs34 hS4
     ·have h7 : i = k := by omega
      subst h7
      rw [gvs_top _ _ _ hvl, hgt.out]
      exact A9.out.keep hs34 hS4
    have hO5 : w4.ownsRow w.heap.size 88 5 v' (k + 1) (scl (ts.take (k + 1)) (vs ++ [.slice xa t.sub.length xc])) := by
     rw [hgs, scl_snoc _ _ _ _ (by rw [List.length_take]; omega)]
     exact h1
    obtain ⟨no', co', hv'⟩ := own_slice h1
    subst hv'
    clear h1 h2 h3 hO4 hba2 hnc cN1 hS4 hown hone A7 A8 A9 AA AB hgs
    go_wp2_with (fail)
    refine ⟨⟨k + 1, vs ++ [.slice xa t.sub.length xc], by omega, by go_num, hB4, by simp; omega, hO5, hN4⟩, ?_⟩
    simp [intOf]; omega
   ·have hd : decide ((k : Int) < (ts.length : Int)) = false := by simp; omega
    have hkl : k = ts.length := by omega
    subst hkl
    rw [List.take_length] at hO
    have hm := sll_of hO hvl.symm h4 (fun i hi => (h i hi).elim fun _ q => q.elim fun _ q => q.2.2.2) (fun i hi => (hN i hi).keep (Nat.le_refl _) fun b _ hb => ⟨rfl, hb.1⟩)
    clear h hs ih hN hvl hO
    go_wp2_with (fail)
    go_ret
    exact ⟨_, rfl, hb, hm⟩
end Go.Proofs.YtmmlkfkpblokiaaGreatDoor
namespace Go.Proofs.YtmmlkfkpblokiaaGreatDoor
set_option maxRecDepth 100000
open Go Go.RowKit Go.Sort
attribute [local go_sem] setCell_drewN alloc_drewN
inductive HSx (W : World) : Nat → Nat → Value → List Slt → Prop
 | mk (lo hi : Nat) (ts : List Slt) (us : List Value) (p : Nat → Nat) (hl : ts.length ≤ 10000) (hG : lo < W.heap.size) (hh : hi ≤ W.heap.size) (hp0 : lo < hi)
  (hp : ∀ i, i < ts.length → lo < p i ∧ p i ≤ p (i + 1) ∧ p (i + 1) ≤ hi)
  (hcs : ∃ cs T, W.heap[lo]? = some (.cells cs T (0, 0)) ∧ cs.size = (ts.length + 3) * 5)
  (h : ∀ i, i < ts.length → W.rangeAt lo (i * 5) (srow (gs ts i) (gvs us i)) ∧ Sok (gs ts i))
  (hm : ∀ i, ts.length ≤ i → i < ts.length + 3 → W.rangeAt lo (i * 5) hmk)
  (hs : ∀ i, i < ts.length → HSx W (p i) (p (i + 1)) (gvs us i) (gs ts i).sub) : HSx W lo hi (.slice (some ⟨lo, 0, none⟩) ts.length (ts.length + 3)) ts
theorem HSx.sl {W : World} {lo hi : Nat} {v : Value} {ts : List Slt} (h : HSx W lo hi v ts) : HSl W (fun b => lo ≤ b ∧ b < hi) v ts := by
 induction h with
 | mk lo hi ts us p hl hG hh hp0 hp hcs h hm hs ih =>
  refine .mk lo ts us hl hG ⟨Nat.le_refl _, hp0⟩ h hm (fun i hi => (ih i hi).keep (Nat.le_refl _) fun b _ hb => ⟨rfl, ?_⟩)
  have := hp i hi
  omega
theorem HSx.keep {W V : World} {lo hi : Nat} {v : Value} {ts : List Slt} (h : HSx W lo hi v ts) (hs : W.heap.size ≤ V.heap.size) : (∀ b, lo ≤ b → b < hi → V.heap[b]? = W.heap[b]?) → HSx V lo hi v ts := by
 induction h with
 | mk lo hi ts us p hl hG hh hp0 hp hcs h hm _ ih =>
  intro hb
  have h0 := hb lo (Nat.le_refl _) hp0
  refine .mk lo hi ts us p hl (by omega) (by omega) hp0 hp (by rw [h0]; exact hcs) (fun i hi => ⟨range_same (h i hi).1 h0, (h i hi).2⟩) (fun i h1 h2 => range_same (hm i h1 h2) h0) (fun i hi => ih i hi fun b h1 h2 => hb b (by have := hp i hi; omega) (by have := hp i hi; omega))
theorem HSx.form {W : World} {lo hi : Nat} {v : Value} {ts : List Slt} (h : HSx W lo hi v ts) : v = .slice (some ⟨lo, 0, none⟩) ts.length (ts.length + 3) ∧ lo < hi := by
 cases h with
 | mk lo hi _ us p hl hG hh hp0 hp hcs h hm hs => exact ⟨rfl, hp0⟩
set_option maxRecDepth 100000 in
set_option maxHeartbeats 16000000 in
theorem l_handx {W : World} {v : Value} {ts : List Slt} (h : Slo W v ts) : ∀ (l : Int), l ≤ 10000 → 0 ≤ slL ts l → ∀ (w : World), Below W.heap.size W w → Calls Tryz.prog 25 #[v] w fun e w' => ∃ v', e = .returned v' ∧ Below w.heap.size w w' ∧ HSx w' w.heap.size w'.heap.size v' ts := by
 induction h with
 | mk ao cap ts us hl hc hn h hs ih =>
  intro l hl1 hl2 w hw
  have hlen := slL_len ts l hl2
  have h4 : ts.length ≤ 10000 := by omega
  obtain ⟨cs, hmk, hcs1, hcs2⟩ := make_sl (ts.length + 3) (by omega) w
  have hmk' : (Instr.makeSlice 22 (.int .i64 ((ts.length : Int) + 3)) (.int .i64 ((ts.length : Int) + 3))).run Tryz.prog w = .ok (.slice (some ⟨w.heap.size, 0, none⟩) (ts.length + 3) (ts.length + 3)) (w.alloc (.cells cs 88)) := hmk
  have hR0 : Hrw (w.alloc (.cells cs 88)) w.heap.size ts [] 0 := ⟨cs, hp1_0 w _, hcs1, fun i c h1 h2 => by unfold hrow; rw [if_neg (by omega)]; exact hcs2 i c h1 h2⟩
  have hba : Below w.heap.size w (w.alloc (.cells cs 88)) := (Below.refl _ _).alloc (Nat.le_refl _) _
  have hsz : (w.alloc (.cells cs 88)).heap.size = w.heap.size + 1 := size_alloc1 _ _
  clear hmk hcs1 hcs2
  go_enter Tryz.func25, Tryz.ntmps25
  go_wp2_with (fail)
  generalize w.alloc (.cells cs 88) = w0 at *
  clear hmk'
  generalize hG : w.heap.size = G at *
  replace hG := hide hG
  go_loopw [4] (fun i wr => ∃ (k : Nat) (vs : List Value) (p : Nat → Nat), k ≤ ts.length + 3 ∧ i = .int .i64 k ∧ Below G w wr ∧ G < wr.heap.size ∧ vs.length = min k ts.length ∧ Hrw wr G ts vs k ∧ G < p (min k ts.length) ∧ p (min k ts.length) = wr.heap.size ∧ ∀ i, i < min k ts.length → (G < p i ∧ p i ≤ p (i + 1) ∧ p (i + 1) ≤ wr.heap.size) ∧ HSx wr (p i) (p (i + 1)) (gvs vs i) (gs ts i).sub) (fun i _ => ts.length + 3 - (intOf i).toNat)
  case atStart => exact ⟨0, [], fun _ => w0.heap.size, by omega, rfl, hba, by omega, by simp, hR0, by show G < w0.heap.size; omega, rfl, fun i hi => by omega⟩
  case round =>
   clear hR0 hba hsz
   obtain ⟨k, vs, p, hk, rfl, hB, hGl, hvl, hR, hpG, hpk, hN⟩ := hrel
   have hww : Below W.heap.size W wr := hw.trans (hB.mono (by rw [← hG.out]; exact hw.size))
   by_cases hlt : k < ts.length + 3
   ·have hd : decide ((k : Int) < (ts.length : Int) + 3) = true := by simp; omega
    have hd' : ((k : Int) < (ts.length : Int) + 3) := by omega
    have hk1 : 0 ≤ (k : Int) ∧ (k : Int) < (ts.length : Int) + 3 := by omega
    obtain ⟨cc, hcc, hcz, hcv⟩ := id hR
    have fz : wr.frozen? ⟨G, k * 5, none⟩ = false := by simp [World.frozen?, hcc]
    have fc : wr.cell? ⟨G, k * 5, none⟩ = some (.int .i64 0) := by
     rw [cell_of_row _ _ _ _ _ _ hcc]
     have := hcv k 0 hlt (by omega)
     rw [Nat.add_zero] at this
     rw [this]; unfold hrow; rw [if_neg (by omega)]; rfl
    by_cases hkn : k < ts.length
    ·have hd2 : decide ((k : Int) < (ts.length : Int)) = true := by simp; omega
     obtain ⟨b, off, hao, hbl, hra, hok⟩ := h k hkn
     have hSl := hs k hkn
     obtain ⟨l', hl3, hl4⟩ := slL_at ts l k hl2 hkn
     have hih := ih k hkn l' (by omega) hl4
     subst hao
     have hGb : W.heap.size ≤ G := by rw [← hG.out]; exact hw.size
     have hbG : b ≠ G := by omega
     obtain ⟨ua, uc, hue⟩ := hSl.form
     rw [Nat.min_eq_left (by omega)] at hvl hN hpG hpk
     have hB1 : Below G w (wr.setCell ⟨G, k * 5, none⟩ (.int .i64 (-77))) := hB.setCell (Nat.le_refl _) _
     have hsz1 : (wr.setCell ⟨G, k * 5, none⟩ (.int .i64 (-77))).heap.size = wr.heap.size := by simp
     have hra1 : (wr.setCell ⟨G, k * 5, none⟩ (.int .i64 (-77))).rangeAt b (off + k * 5) (srow (gs ts k) (gvs us k)) := range_same (rangeS_keep2 hra hww hbl) (heap_setCell_other _ _ b _ hbG)
     have hth : (wr.setCell ⟨G, k * 5, none⟩ (.int .i64 (-77))).there G (k * 5) 5 := there_of_row (heap_setCell_same wr G (k * 5) cc _ _ hcc) (by simp; omega)
     have hR1 := fun (V : World) (u v : Value) hV => hR.slot (V := V) (u := u) (v := v) hkn hvl hV
     generalize hgt : gs ts k = t at *
     replace hgt := hide hgt
     generalize hu : gvs us k = u at *
     subst hue
     clear hu h hs ih hR
     have hra' := hra
     clear hra
     obtain ⟨cs2, hcs2, hcz2⟩ := setCells_row (g := G) [.int .i64 t.no, .int .i64 t.kind, .int .u64 (t.least : Int), .int .u64 (t.most : Int), .slice ua t.sub.length uc] (k * 5) _ _ (heap_setCell_same wr G (k * 5) cc _ (.int .i64 (-77)) hcc)
     have hcz3 : cs2.size = (ts.length + 3) * 5 := by rw [hcz2]; simp [hcz]
     have hcs2' : ((((((wr.setCell ⟨G, k * 5, none⟩ (.int .i64 (-77))).setCell ⟨G, k * 5, none⟩ (.int .i64 t.no)).setCell ⟨G, k * 5 + 1, none⟩ (.int .i64 t.kind)).setCell ⟨G, k * 5 + 2, none⟩ (.int .u64 (t.least : Int))).setCell ⟨G, k * 5 + 3, none⟩ (.int .u64 (t.most : Int))).setCell ⟨G, k * 5 + 4, none⟩ (.slice ua t.sub.length uc)).heap[G]? = some (.cells cs2 88 (0, 0)) := hcs2
     have hB2 : Below G w ((((((wr.setCell ⟨G, k * 5, none⟩ (.int .i64 (-77))).setCell ⟨G, k * 5, none⟩ (.int .i64 t.no)).setCell ⟨G, k * 5 + 1, none⟩ (.int .i64 t.kind)).setCell ⟨G, k * 5 + 2, none⟩ (.int .u64 (t.least : Int))).setCell ⟨G, k * 5 + 3, none⟩ (.int .u64 (t.most : Int))).setCell ⟨G, k * 5 + 4, none⟩ (.slice ua t.sub.length uc)) := below_setCells (Nat.le_refl _) [.int .i64 t.no, .int .i64 t.kind, .int .u64 (t.least : Int), .int .u64 (t.most : Int), .slice ua t.sub.length uc] (k * 5) _ hB1
     have hsz2 : ((((((wr.setCell ⟨G, k * 5, none⟩ (.int .i64 (-77))).setCell ⟨G, k * 5, none⟩ (.int .i64 t.no)).setCell ⟨G, k * 5 + 1, none⟩ (.int .i64 t.kind)).setCell ⟨G, k * 5 + 2, none⟩ (.int .u64 (t.least : Int))).setCell ⟨G, k * 5 + 3, none⟩ (.int .u64 (t.most : Int))).setCell ⟨G, k * 5 + 4, none⟩ (.slice ua t.sub.length uc)).heap.size = wr.heap.size := (size_setCells (g := G) [.int .i64 t.no, .int .i64 t.kind, .int .u64 (t.least : Int), .int .u64 (t.most : Int), .slice ua t.sub.length uc] (k * 5) _).trans hsz1
     have hel2 : ∀ q, q ≠ G → ((((((wr.setCell ⟨G, k * 5, none⟩ (.int .i64 (-77))).setCell ⟨G, k * 5, none⟩ (.int .i64 t.no)).setCell ⟨G, k * 5 + 1, none⟩ (.int .i64 t.kind)).setCell ⟨G, k * 5 + 2, none⟩ (.int .u64 (t.least : Int))).setCell ⟨G, k * 5 + 3, none⟩ (.int .u64 (t.most : Int))).setCell ⟨G, k * 5 + 4, none⟩ (.slice ua t.sub.length uc)).heap[q]? = wr.heap[q]? := fun q hq => (heap_setCells_else hq [.int .i64 t.no, .int .i64 t.kind, .int .u64 (t.least : Int), .int .u64 (t.most : Int), .slice ua t.sub.length uc] (k * 5) _).trans (heap_setCell_other _ _ q _ hq)
     have hww2 : Below W.heap.size W ((((((wr.setCell ⟨G, k * 5, none⟩ (.int .i64 (-77))).setCell ⟨G, k * 5, none⟩ (.int .i64 t.no)).setCell ⟨G, k * 5 + 1, none⟩ (.int .i64 t.kind)).setCell ⟨G, k * 5 + 2, none⟩ (.int .u64 (t.least : Int))).setCell ⟨G, k * 5 + 3, none⟩ (.int .u64 (t.most : Int))).setCell ⟨G, k * 5 + 4, none⟩ (.slice ua t.sub.length uc)) := hw.trans (hB2.mono hGb)
     have hV0 : ((((((wr.setCell ⟨G, k * 5, none⟩ (.int .i64 (-77))).setCell ⟨G, k * 5, none⟩ (.int .i64 t.no)).setCell ⟨G, k * 5 + 1, none⟩ (.int .i64 t.kind)).setCell ⟨G, k * 5 + 2, none⟩ (.int .u64 (t.least : Int))).setCell ⟨G, k * 5 + 3, none⟩ (.int .u64 (t.most : Int))).setCell ⟨G, k * 5 + 4, none⟩ (.slice ua t.sub.length uc)).heap[G]? = ((wr.setCell ⟨G, k * 5, none⟩ (.int .i64 (-77))).setCells G (k * 5) (srow t (.slice ua t.sub.length uc))).heap[G]? := rfl
     have hra0 := rangeS_keep2 hra' hww hbl
     have b0 := hra0 0 _ rfl
     have b1 := hra0 1 _ rfl
     have b2 := hra0 2 _ rfl
     have b3 := hra0 3 _ rfl
     have b4 := hra0 4 _ rfl
     have f1 : wr.cell? ⟨G, k * 5 + 1, none⟩ = some (.int .i64 0) := by rw [cell_of_row _ _ _ _ _ _ hcc, hcv k 1 hlt (by omega)]; unfold hrow; rw [if_neg (by omega)]; rfl
     have f2 : wr.cell? ⟨G, k * 5 + 2, none⟩ = some (.int .u64 0) := by rw [cell_of_row _ _ _ _ _ _ hcc, hcv k 2 hlt (by omega)]; unfold hrow; rw [if_neg (by omega)]; rfl
     have f3 : wr.cell? ⟨G, k * 5 + 3, none⟩ = some (.int .u64 0) := by rw [cell_of_row _ _ _ _ _ _ hcc, hcv k 3 hlt (by omega)]; unfold hrow; rw [if_neg (by omega)]; rfl
     have f4 : wr.cell? ⟨G, k * 5 + 4, none⟩ = some (.slice none 0 0) := by rw [cell_of_row _ _ _ _ _ _ hcc, hcv k 4 hlt (by omega)]; unfold hrow; rw [if_neg (by omega)]; rfl
     have fz1 : wr.frozen? ⟨G, k * 5 + 1, none⟩ = false := by simp [World.frozen?, hcc]
     have fz2 : wr.frozen? ⟨G, k * 5 + 2, none⟩ = false := by simp [World.frozen?, hcc]
     have fz3 : wr.frozen? ⟨G, k * 5 + 3, none⟩ = false := by simp [World.frozen?, hcc]
     have fz4 : wr.frozen? ⟨G, k * 5 + 4, none⟩ = false := by simp [World.frozen?, hcc]
     rw [Nat.add_zero] at b0
     have A2 := hide hB2
     have A4 := hide hsz2
     have A5 := hide hel2
     have A6 := hide hww2
     have A7 := hide hV0
     have A8 := hide hcs2'
     have A9 := hide hR1
     have AN := hide hN
     have hbG' : ¬ G = b := fun e => hbG e.symm
     clear hB1 hB2 hsz1 hsz2 hel2 hww2 hV0 hcs2 hcs2' hR1 hN hcz2 hcc hB hww hl hc hn hra1 hra' hra0 hth hcv
     have cH := hih ((((((wr.setCell ⟨G, k * 5, none⟩ (.int .i64 (-77))).setCell ⟨G, k * 5, none⟩ (.int .i64 t.no)).setCell ⟨G, k * 5 + 1, none⟩ (.int .i64 t.kind)).setCell ⟨G, k * 5 + 2, none⟩ (.int .u64 (t.least : Int))).setCell ⟨G, k * 5 + 3, none⟩ (.int .u64 (t.most : Int))).setCell ⟨G, k * 5 + 4, none⟩ (.slice ua t.sub.length uc)) A6.out
     clear hih
     go_wp2_with (fail)
     generalize ((((((wr.setCell ⟨G, k * 5, none⟩ (.int .i64 (-77))).setCell ⟨G, k * 5, none⟩ (.int .i64 t.no)).setCell ⟨G, k * 5 + 1, none⟩ (.int .i64 t.kind)).setCell ⟨G, k * 5 + 2, none⟩ (.int .u64 (t.least : Int))).setCell ⟨G, k * 5 + 3, none⟩ (.int .u64 (t.most : Int))).setCell ⟨G, k * 5 + 4, none⟩ (.slice ua t.sub.length uc)) = w2 at *
     refine cH.mono ?_
     rintro e_ w3 ⟨v', rfl, hb3, hv'⟩
     clear cH b0 b1 b2 b3 b4 f1 f2 f3 f4 fz1 fz2 fz3 fz4 fz fc
     obtain ⟨rfl, hG'⟩ := hv'.form
     have hs2 := A4.out
     have hG2 : G < w2.heap.size := by omega
     have r3 : w3.heap[G]? = some (.cells cs2 88 (0, 0)) := keep hb3 A8.out
     have hR2 := A9.out w3 (.slice ua t.sub.length uc) (.slice (some ⟨w2.heap.size, 0, none⟩) t.sub.length (t.sub.length + 3)) ((hb3.block G hG2).trans A7.out)
     have hB3 : Below G w (w3.setCell ⟨G, k * 5 + 4, none⟩ (.slice (some ⟨w2.heap.size, 0, none⟩) t.sub.length (t.sub.length + 3))) := (A2.out.trans (hb3.mono (by omega))).setCell (Nat.le_refl _) _
     have hs3 := hb3.size
     have hs4 : (w3.setCell ⟨G, k * 5 + 4, none⟩ (.slice (some ⟨w2.heap.size, 0, none⟩) t.sub.length (t.sub.length + 3))).heap.size = w3.heap.size := by simp
     have hN2 : ∀ i, i < min (k + 1) ts.length → (G < (if i ≤ k then p i else w3.heap.size) ∧ (if i ≤ k then p i else w3.heap.size) ≤ (if i + 1 ≤ k then p (i + 1) else w3.heap.size) ∧ (if i + 1 ≤ k then p (i + 1) else w3.heap.size) ≤ (w3.setCell ⟨G, k * 5 + 4, none⟩ (.slice (some ⟨w2.heap.size, 0, none⟩) t.sub.length (t.sub.length + 3))).heap.size) ∧ HSx (w3.setCell ⟨G, k * 5 + 4, none⟩ (.slice (some ⟨w2.heap.size, 0, none⟩) t.sub.length (t.sub.length + 3))) (if i ≤ k then p i else w3.heap.size) (if i + 1 ≤ k then p (i + 1) else w3.heap.size) (gvs (vs ++ [.slice (some ⟨w2.heap.size, 0, none⟩) t.sub.length (t.sub.length + 3)]) i) (gs ts i).sub := fun i hi => by
      rcases Nat.lt_or_ge i k with h6 | h6
      ·rw [gvs_low _ _ _ (by omega), if_pos (by omega), if_pos (by omega)]
       obtain ⟨h9, h10⟩ := AN.out i h6
       exact ⟨by omega, h10.keep (by omega) fun q h7 h8 => (heap_setCell_other _ _ q _ (by show q ≠ G; omega)).trans ((hb3.block q (by omega)).trans (A5.out q (by omega)))⟩
      ·have h7 : i = k := by omega
       subst h7
       rw [gvs_top _ _ _ hvl, hgt.out, if_pos (Nat.le_refl _), if_neg (by omega), hpk, ← hs2]
       exact ⟨by omega, hv'.keep (by omega) fun q h7 h8 => heap_setCell_other _ _ q _ (by show q ≠ G; omega)⟩
     have fz5 : w3.frozen? ⟨G, k * 5 + 4, none⟩ = false := by simp [World.frozen?, r3]
     obtain ⟨y5, fc5⟩ : ∃ y, w3.cell? ⟨G, k * 5 + 4, none⟩ = some y := by
      rw [cell_of_row _ _ _ _ _ _ r3]
      exact ⟨_, Array.getElem?_eq_getElem (by omega)⟩
     have A10 := hide hR2
     have A11 := hide hB3
     have A12 := hide hN2
     have A13 := hide hs4
     clear hs2 hR2 hB3 hN2 hs4 hv' hb3 r3 A2 A4 A5 A6 A7 A8 A9 AN
     go_wp2_with (fail)
     refine ⟨⟨k + 1, vs ++ [.slice (some ⟨w2.heap.size, 0, none⟩) t.sub.length (t.sub.length + 3)], fun i => if i ≤ k then p i else w3.heap.size, by omega, by go_num, A11.out, by rw [A13.out]; omega, by simp; omega, A10.out, ?_, ?_, A12.out⟩, ?_⟩
     ·rw [Nat.min_eq_left (by omega)]; show G < if k + 1 ≤ k then p (k + 1) else w3.heap.size; rw [if_neg (by omega)]; omega
     ·rw [Nat.min_eq_left (by omega)]; show (if k + 1 ≤ k then p (k + 1) else w3.heap.size) = _; rw [if_neg (by omega), A13.out]
     simp [intOf]; omega
    ·have hd2 : decide ((k : Int) < (ts.length : Int)) = false := by simp; omega
     have hR2 := hR.mark (by omega) hlt
     have hB2 : Below G w (wr.setCell ⟨G, k * 5, none⟩ (.int .i64 (-77))) := hB.setCell (Nat.le_refl _) _
     have hsz2 : (wr.setCell ⟨G, k * 5, none⟩ (.int .i64 (-77))).heap.size = wr.heap.size := by simp
     have hN2 : ∀ i, i < min (k + 1) ts.length → (G < p i ∧ p i ≤ p (i + 1) ∧ p (i + 1) ≤ (wr.setCell ⟨G, k * 5, none⟩ (.int .i64 (-77))).heap.size) ∧ HSx (wr.setCell ⟨G, k * 5, none⟩ (.int .i64 (-77))) (p i) (p (i + 1)) (gvs vs i) (gs ts i).sub := fun i hi => by
      obtain ⟨h5, h6⟩ := hN i (by omega)
      exact ⟨by omega, h6.keep (by omega) fun q h7 _ => heap_setCell_other _ _ q _ (by show q ≠ G; omega)⟩
     rw [show min k ts.length = min (k + 1) ts.length by omega] at hpG hpk
     rw [← hsz2] at hpk
     clear h hs ih hR hN hcc hcz hcv
     go_wp2_with (fail)
     generalize (wr.setCell ⟨G, k * 5, none⟩ (.int .i64 (-77))) = w1 at *
     refine ⟨⟨k + 1, vs, p, by omega, by go_num, hB2, by omega, by rw [hvl]; omega, hR2, hpG, hpk, hN2⟩, ?_⟩
     simp [intOf]; omega
   ·have hd : decide ((k : Int) < (ts.length : Int) + 3) = false := by simp; omega
    have hke : k = ts.length + 3 := by omega
    subst hke
    rw [Nat.min_eq_right (by omega)] at hvl hN hpG hpk
    have hfin : HSx wr G wr.heap.size (.slice (some ⟨G, 0, none⟩) ts.length (ts.length + 3)) ts := by
     refine .mk G wr.heap.size ts vs p h4 hGl (Nat.le_refl _) hGl (fun i hi => (hN i hi).1) (hR.elim fun cs q => ⟨cs, _, q.1, q.2.1⟩) (fun i hi => ⟨?_, (h i hi).elim fun _ q => q.elim fun _ q => q.2.2.2⟩) (fun i h1 h2 => ?_) (fun i hi => (hN i hi).2)
     ·have := hR.range (i := i) (by omega) (hrow_len ..)
      rwa [show hrow ts vs (ts.length + 3) i = srow (gs ts i) (gvs vs i) by unfold hrow; rw [if_pos (by omega), if_pos hi]] at this
     ·have := hR.range (i := i) h2 (hrow_len ..)
      rwa [show hrow ts vs (ts.length + 3) i = hmk by unfold hrow; rw [if_pos (by omega), if_neg (by omega)]] at this
    clear h hs ih hR hN
    go_wp2_with (fail)
    go_ret
    exact ⟨_, rfl, by rw [hG.out]; exact hB, by rw [hG.out]; exact hfin⟩
end Go.Proofs.YtmmlkfkpblokiaaGreatDoor
namespace Go.Proofs.YtmmlkfkpblokiaaGreatDoor
set_option maxRecDepth 100000
open Go Go.RowKit Go.Sort
attribute [local go_sem] setCell_drewN alloc_drewN
set_option maxRecDepth 100000 in
set_option maxHeartbeats 4000000 in
theorem r_Compile {W : World} {v : Value} {ts : List Slt} (h : Slo W v ts) (hbig : 0 ≤ slL ts 10000) (w : World) (hw : Below W.heap.size W w) : Calls Tryz.prog 27 #[v] w fun e w' => Below w.heap.size w w' ∧ ((vld ts = 0 ∧ ∃ g u, e = .returned (.tuple #[.pointer (some ⟨g, 0, none⟩), .int .i64 0]) ∧ w.heap.size ≤ g ∧ w'.heap[g]? = some (.cells #[u] 81 (0, 0)) ∧ SlL w' (fun b => w.heap.size ≤ b) u ts) ∨ (vld ts ≠ 0 ∧ e = .returned (.tuple #[.pointer none, .int .i64 (vld ts)]))) := by
 have cV := r_valid h w hw
 have cT := fun V hV => r_twin h 10000 (by omega) hbig V hV
 obtain ⟨ao, cap, rfl⟩ := h.form
 generalize hx : vld ts = x at *
 replace hx := hide hx
 by_cases h0 : x = 0
 ·subst h0
  go_enter Tryz.func27, Tryz.ntmps27
  go_wp2_with (fail)
  refine cV.mono ?_
  rintro e_ w1 ⟨rfl, hb1⟩
  clear cV
  go_wp2_with (fail)
  refine (cT w1 (Below.after hw hb1)).mono ?_
  rintro e_ w2 ⟨u, rfl, hb2, hu⟩
  clear cT
  obtain ⟨ua, uc, rfl⟩ := hu.form
  have r1 := hp1_0 w2 (.cells #[.slice ua ts.length uc] 81)
  have hba : Below w2.heap.size w2 (w2.alloc (.cells #[.slice ua ts.length uc] 81)) := (Below.refl _ _).alloc (Nat.le_refl _) _
  have hs1 := hb1.size
  have hs2 := hb2.size
  have hu2 : SlL (w2.alloc (.cells #[.slice ua ts.length uc] 81)) (fun b => w.heap.size ≤ b) (.slice ua ts.length uc) ts := hu.keep hba.size fun q h1 h2 => ⟨hba.block q h1, by omega⟩
  have A1 := hide r1
  have A2 := hide (Below.after (Below.after hb1 hb2) hba)
  have A3 := hide hu2
  clear r1 hba hu hu2 hb1 hb2
  go_wp2_with (fail)
  go_ret2
  exact ⟨A2.out, .inl ⟨trivial, _, _, rfl, by omega, A1.out, A3.out⟩⟩
 ·have hx' : (x == 0) = false := beq_eq_false_iff_ne.2 h0
  go_enter Tryz.func27, Tryz.ntmps27
  go_wp2_with (fail)
  refine cV.mono ?_
  rintro e_ w1 ⟨rfl, hb1⟩
  clear cV cT
  go_wp2_with (fail)
  go_ret2
  exact ⟨hb1, .inr ⟨h0, rfl⟩⟩
structure Out (lo hi : Nat) (w w' : World) : Prop where
 os : w'.os = w.os
 tape : w'.tape = w.tape
 output : w'.output = w.output
 size : w'.heap.size = w.heap.size
 block : ∀ k, (k < lo ∨ hi ≤ k) → w'.heap[k]? = w.heap[k]?
theorem Out.refl (lo hi : Nat) (w : World) : Out lo hi w w := ⟨rfl, rfl, rfl, rfl, fun _ _ => rfl⟩
theorem Out.trans {lo hi lo' hi' : Nat} {a b c : World} (h : Out lo hi a b) (k : Out lo' hi' b c) (h1 : lo ≤ lo') (h2 : hi' ≤ hi) : Out lo hi a c :=
 ⟨k.os.trans h.os, k.tape.trans h.tape, k.output.trans h.output, k.size.trans h.size, fun i hi => (k.block i (by omega)).trans (h.block i hi)⟩
theorem Out.set {lo hi o : Nat} {a b : World} {v : Value} (h : Out lo hi a b) (h1 : lo < hi) : Out lo hi a (b.setCell ⟨lo, o, none⟩ v) :=
 ⟨h.os, h.tape, h.output, by rw [← h.size]; simp, fun i hi => (heap_setCell_other b _ i v (by show i ≠ lo; omega)).trans (h.block i hi)⟩
set_option maxRecDepth 100000 in
set_option maxHeartbeats 16000000 in
theorem l_wipe {W : World} {lo hi : Nat} {v : Value} {ts : List Slt} (h : HSx W lo hi v ts) : ∀ (w : World), (∀ b, lo ≤ b → b < hi → w.heap[b]? = W.heap[b]?) → Calls Tryz.prog 29 #[v] w fun e w' => (∃ u, e = .returned u) ∧ Out lo hi w w' := by
 induction h with
 | mk lo hi ts us p hl hG hh hp0 hp hcs h hm hs ih =>
  intro w hw
  obtain ⟨cs0, T, hc0, hz0⟩ := hcs
  have hv0 : ∀ j c, j < ts.length → c < 5 → cs0[j * 5 + c]? = (srow (gs ts j) (gvs us j))[c]? := fun j c hj hc => by
   have hx : ∃ x, (srow (gs ts j) (gvs us j))[c]? = some x := ⟨_, List.getElem?_eq_getElem (by show c < 5; exact hc)⟩
   obtain ⟨x, hx⟩ := hx
   have := (h j hj).1 c x hx
   rw [cell_of_row _ _ _ _ _ _ hc0] at this
   rw [hx, this]
  have hpm : ∀ i j, i ≤ j → j < ts.length → p i ≤ p j := fun i j hij hj => by
   induction j with
   | zero =>
    have : i = 0 := by omega
    rw [this]; exact Nat.le_refl _
   | succ j ihj =>
    rcases Nat.lt_or_ge i (j + 1) with q | q
    ·exact Nat.le_trans (ihj (by omega) (by omega)) (hp j (by omega)).2.1
    ·have : i = j + 1 := by omega
     rw [this]; exact Nat.le_refl _
  have hc1 := (hw lo (Nat.le_refl _) hp0).trans hc0
  go_enter Tryz.func29, Tryz.ntmps29
  go_wp2_with (fail)
  go_loopw [2] (fun i wr => ∃ (k : Nat) (cs : Array Value), k ≤ ts.length ∧ i = .int .i64 k ∧ Out lo hi w wr ∧ wr.heap[lo]? = some (.cells cs T (0, 0)) ∧ cs.size = (ts.length + 3) * 5 ∧ (∀ j c, k ≤ j → j < ts.length → c < 5 → cs[j * 5 + c]? = (srow (gs ts j) (gvs us j))[c]?) ∧ ∀ j b, k ≤ j → j < ts.length → p j ≤ b → b < p (j + 1) → wr.heap[b]? = W.heap[b]?) (fun i _ => ts.length - (intOf i).toNat)
  case atStart => exact ⟨0, cs0, by omega, rfl, Out.refl _ _ _, hc1, hz0, fun j c _ hj hc => hv0 j c hj hc, fun j b _ hj h1 h2 => hw b (by have := hp j hj; omega) (by have := hp j hj; omega)⟩
  case round =>
   obtain ⟨k, cs, hk, rfl, hO, hc, hz, hv, hN⟩ := hrel
   by_cases hlt : k < ts.length
   ·have hd : decide ((k : Int) < (ts.length : Int)) = true := by simp; omega
    have hk1 : 0 ≤ (k : Int) ∧ (k : Int) < (ts.length : Int) := by omega
    have hpk := hp k hlt
    have y4 : wr.cell? ⟨lo, k * 5 + 4, none⟩ = some (gvs us k) := by
     rw [cell_of_row _ _ _ _ _ _ hc, hv k 4 (Nat.le_refl _) hlt (by omega)]; rfl
    have cW := ih k hlt wr (fun b h1 h2 => hN k b (Nat.le_refl _) hlt h1 h2)
    have hfm := (hs k hlt).form.1
    generalize gvs us k = u at *
    subst hfm
    have A1 := hide hO
    have A2 := hide hc
    have A3 := hide hv
    have A4 := hide hN
    clear h hs ih hm hO hc hv hN hv0 hc0 hc1 hw
    go_wp2_with (fail)
    refine cW.mono ?_
    rintro e_ w2 ⟨⟨u0, rfl⟩, hO2⟩
    clear cW y4
    have r2 := (hO2.block lo (by omega)).trans A2.out
    obtain ⟨z0, n0⟩ : ∃ z, w2.cell? ⟨lo, k * 5, none⟩ = some z := by
     rw [cell_of_row _ _ _ _ _ _ r2]
     exact ⟨_, Array.getElem?_eq_getElem (by omega)⟩
    have f0 : w2.frozen? ⟨lo, k * 5, none⟩ = false := by simp [World.frozen?, r2]
    obtain ⟨z1, n1⟩ : ∃ z, w2.cell? ⟨lo, k * 5 + 1, none⟩ = some z := by
     rw [cell_of_row _ _ _ _ _ _ r2]
     exact ⟨_, Array.getElem?_eq_getElem (by omega)⟩
    have f1 : w2.frozen? ⟨lo, k * 5 + 1, none⟩ = false := by simp [World.frozen?, r2]
    obtain ⟨z2, n2⟩ : ∃ z, w2.cell? ⟨lo, k * 5 + 2, none⟩ = some z := by
     rw [cell_of_row _ _ _ _ _ _ r2]
     exact ⟨_, Array.getElem?_eq_getElem (by omega)⟩
    have f2 : w2.frozen? ⟨lo, k * 5 + 2, none⟩ = false := by simp [World.frozen?, r2]
    obtain ⟨z3, n3⟩ : ∃ z, w2.cell? ⟨lo, k * 5 + 3, none⟩ = some z := by
     rw [cell_of_row _ _ _ _ _ _ r2]
     exact ⟨_, Array.getElem?_eq_getElem (by omega)⟩
    have f3 : w2.frozen? ⟨lo, k * 5 + 3, none⟩ = false := by simp [World.frozen?, r2]
    obtain ⟨z4, n4⟩ : ∃ z, w2.cell? ⟨lo, k * 5 + 4, none⟩ = some z := by
     rw [cell_of_row _ _ _ _ _ _ r2]
     exact ⟨_, Array.getElem?_eq_getElem (by omega)⟩
    have f4 : w2.frozen? ⟨lo, k * 5 + 4, none⟩ = false := by simp [World.frozen?, r2]
    have hO3 := A1.out.trans hO2 (by omega) (by omega)
    have hO4 : Out lo hi w (((((w2.setCell ⟨lo, k * 5, none⟩ (.int .i64 1)).setCell ⟨lo, k * 5 + 1, none⟩ (.int .i64 1)).setCell ⟨lo, k * 5 + 2, none⟩ (.int .u64 0)).setCell ⟨lo, k * 5 + 3, none⟩ (.int .u64 3)).setCell ⟨lo, k * 5 + 4, none⟩ (.slice none 0 0)) := ((((hO3.set hp0).set hp0).set hp0).set hp0).set hp0
    have r3 := (heap_setCell_same _ lo (k * 5 + 4) _ _ (.slice none 0 0) (heap_setCell_same _ lo (k * 5 + 3) _ _ (.int .u64 3) (heap_setCell_same _ lo (k * 5 + 2) _ _ (.int .u64 0) (heap_setCell_same _ lo (k * 5 + 1) _ _ (.int .i64 1) (heap_setCell_same _ lo (k * 5) _ _ (.int .i64 1) r2)))))
    have hel : ∀ q, q ≠ lo → (((((w2.setCell ⟨lo, k * 5, none⟩ (.int .i64 1)).setCell ⟨lo, k * 5 + 1, none⟩ (.int .i64 1)).setCell ⟨lo, k * 5 + 2, none⟩ (.int .u64 0)).setCell ⟨lo, k * 5 + 3, none⟩ (.int .u64 3)).setCell ⟨lo, k * 5 + 4, none⟩ (.slice none 0 0)).heap[q]? = w2.heap[q]? := fun q hq => ((((heap_setCell_other _ _ q _ hq).trans (heap_setCell_other _ _ q _ hq)).trans (heap_setCell_other _ _ q _ hq)).trans (heap_setCell_other _ _ q _ hq)).trans (heap_setCell_other _ _ q _ hq)
    have B1 := hide hO4
    have B2 := hide r3
    have B3 := hide hel
    have B4 := hide hO2
    clear hO4 r3 hel r2 hO2 hO3 A1 A2
    go_wp2_with (fail)
    generalize (((((w2.setCell ⟨lo, k * 5, none⟩ (.int .i64 1)).setCell ⟨lo, k * 5 + 1, none⟩ (.int .i64 1)).setCell ⟨lo, k * 5 + 2, none⟩ (.int .u64 0)).setCell ⟨lo, k * 5 + 3, none⟩ (.int .u64 3)).setCell ⟨lo, k * 5 + 4, none⟩ (.slice none 0 0)) = w3 at *
    refine ⟨⟨k + 1, _, by omega, by go_num, B1.out, B2.out, by simp [hz], fun j c h1 h2 h3 => ?_, fun j b h1 h2 h3 h4 => ?_⟩, ?_⟩
    ·simp only [Array.getElem?_setIfInBounds]
     rw [if_neg (by omega), if_neg (by omega), if_neg (by omega), if_neg (by omega), if_neg (by omega)]
     exact A3.out j c (by omega) h2 h3
    ·have hj := hp j h2
     have hmono : p (k + 1) ≤ p j := hpm (k + 1) j (by omega) (by omega)
     rw [B3.out b (by omega), B4.out.block b (by omega)]
     exact A4.out j b (by omega) h2 h3 h4
    ·simp [intOf]; omega
   ·have hd : decide ((k : Int) < (ts.length : Int)) = false := by simp; omega
    clear h hs ih hm
    go_wp2_with (fail)
    go_end0
    exact ⟨⟨_, rfl⟩, hO⟩
end Go.Proofs.YtmmlkfkpblokiaaGreatDoor
namespace Go.Proofs.YtmmlkfkpblokiaaGreatDoor
set_option maxRecDepth 100000
open Go Go.RowKit Go.Sort
attribute [local go_sem] setCell_drewN alloc_drewN
def Rdc (W : World) (g : Nat) (ts : List Slt) : Prop := ∃ u, W.heap[g]? = some (.cells #[u] 81 (0, 0)) ∧ Slo W u ts
end Go.Proofs.YtmmlkfkpblokiaaGreatDoor
namespace Go.Proofs.YtmmlkfkpblokiaaGreatDoor
set_option maxRecDepth 100000
open Go Go.RowKit Go.Sort
attribute [local go_sem] setCell_drewN alloc_drewN
theorem flr_form (f : Option Flt3) : ∃ a b c : Int, flr f = #[.int .i64 a, .int .i64 b, .int .i64 c] := by
 cases f with
 | none => exact ⟨0, 0, 0, rfl⟩
 | some x => exact ⟨_, _, _, rfl⟩
end Go.Proofs.YtmmlkfkpblokiaaGreatDoor
namespace Go.Proofs.YtmmlkfkpblokiaaGreatDoor
set_option maxRecDepth 100000
open Go Go.RowKit Go.Extern.Stop Go.Stop Go.Extern
theorem as_valueOf27 (t : Addr) (w : World) : (ReflectliteValue.unpack (.iface 72 (.pointer (some t)))).run Tryz.prog w
 = .ok (.agg #[.pointer (some ⟨4, 72, none⟩), .pointer (some ⟨w.heap.size, 0, none⟩), .int .u64 150]) (w.alloc (.cells #[.pointer (some t)] 72)) := by kernel_rfl
theorem as_type27 (a : Addr) (w : World) : (ReflectliteValue.methodAny (ReflectliteValue.valueError "reflectlite.Value.Type" 0) (fun t _ _ _ => ReflectliteType.toType t) #[.agg #[.pointer (some ⟨4, 72, none⟩), .pointer (some a), .int .u64 150]]).run Tryz.prog w
 = .ok (.iface 144 (.agg #[.pointer (some ⟨4, 72, none⟩)])) w := by kernel_rfl
theorem as_methodKind (h : Value) (w : World) : (Go.method 356 144 (.agg #[h]) "Kind").run Tryz.prog w = .ok (156, h) w := by kernel_rfl
theorem as_kind27 (w : World) : ((ReflectliteType.abiMethod fun t => (fun a : Nat => Value.int IntKind.u8 (a : Int)) <$> Rtype.kind t) #[.pointer (some ⟨4, 72, none⟩)]).run Tryz.prog w = .ok (.int .u8 22) w := by kernel_rfl
theorem as_kind25 (w : World) : ((ReflectliteType.abiMethod fun t => (fun a : Nat => Value.int IntKind.u8 (a : Int)) <$> Rtype.kind t) #[.pointer (some ⟨4, 70, none⟩)]).run Tryz.prog w = .ok (.int .u8 22) w := by kernel_rfl
theorem as_rlm (z : Sem Value) (f : TypeId → Addr → Nat → Nat → Sem Value) (v : Value) :
 ReflectliteValue.method z f #[v] = (do match ← ReflectliteValue.parts v with | none => z | some (t, a, fl) => f t a fl (fl % 32)) := rfl
theorem as_parts27 (a : Addr) (w : World) : (ReflectliteValue.parts (.agg #[.pointer (some ⟨4, 72, none⟩), .pointer (some a), .int .u64 150])).run Tryz.prog w = .ok (some (72, a, 150)) w := by kernel_rfl
theorem as_isNil27 (a p : Addr) (W : World) (ha : W.cell? a = some (.pointer (some p))) :
 (ReflectliteValue.method (ReflectliteValue.valueError "reflectlite.Value.IsNil" 0) ReflectliteValue.isNil #[.agg #[.pointer (some ⟨4, 72, none⟩), .pointer (some a), .int .u64 150]]).run Tryz.prog W = .ok (.bool false) W := by
 rw [as_rlm]
 simp only [Sem.run_bind, as_parts27, Result.andThen]
 simp [ReflectliteValue.isNil, loadVar, isAgg, underlying, Tryz.underlying72, ha, Result.andThen]
theorem as_methodElem (h : Value) (w : World) : (Go.method 356 144 (.agg #[h]) "Elem").run Tryz.prog w = .ok (170, .agg #[h]) w := by kernel_rfl
theorem as_methodImplements (h : Value) (w : World) : (Go.method 356 144 (.agg #[h]) "Implements").run Tryz.prog w = .ok (171, .agg #[h]) w := by kernel_rfl
theorem as_methodAssignableTo (h : Value) (w : World) : (Go.method 356 144 (.agg #[h]) "AssignableTo").run Tryz.prog w = .ok (168, .agg #[h]) w := by kernel_rfl
theorem as_elem27 (w : World) : (ReflectliteType.method ReflectliteType.elem #[.agg #[.pointer (some ⟨4, 72, none⟩)]]).run Tryz.prog w = .ok (.iface 144 (.agg #[.pointer (some ⟨4, 70, none⟩)])) w := by kernel_rfl
theorem as_implements25 (w : World) : (ReflectliteType.relation "Implements" ReflectliteType.implements_ #[.agg #[.pointer (some ⟨4, 70, none⟩)], .iface 144 (.agg #[.pointer (some ⟨4, 37, none⟩)])]).run Tryz.prog w = .ok (.bool true) w := by kernel_rfl
theorem as_typeOf25 (v : Value) (w : World) : (ReflectliteType.typeOf #[.iface 70 v]).run Tryz.prog w = .ok (.iface 144 (.agg #[.pointer (some ⟨4, 70, none⟩)])) w := by kernel_rfl
theorem as_assignable25 (w : World) : (ReflectliteType.relation "AssignableTo" ReflectliteType.assignableTo #[.agg #[.pointer (some ⟨4, 70, none⟩)], .iface 144 (.agg #[.pointer (some ⟨4, 70, none⟩)])]).run Tryz.prog w = .ok (.bool true) w := by kernel_rfl
theorem as_valueOf25 (e : Addr) (w : World) : (ReflectliteValue.unpack (.iface 70 (.pointer (some e)))).run Tryz.prog w
 = .ok (.agg #[.pointer (some ⟨4, 70, none⟩), .pointer (some ⟨w.heap.size, 0, none⟩), .int .u64 150]) (w.alloc (.cells #[.pointer (some e)] 70)) := by kernel_rfl
theorem as_elemOf27 (w : World) : (Rtype.elem? 72).run Tryz.prog w = .ok (some 70) w := by kernel_rfl
theorem as_mk25 (p : Addr) (w : World) : (ReflectliteValue.mk 70 p ReflectliteValue.flagAddr).run Tryz.prog w = .ok (.agg #[.pointer (some ⟨4, 70, none⟩), .pointer (some p), .int .u64 406]) w := by kernel_rfl
theorem as_elemV27 (a p : Addr) (W : World) (ha : W.cell? a = some (.pointer (some p))) :
 (ReflectliteValue.method (ReflectliteValue.valueError "reflectlite.Value.Elem" 0) ReflectliteValue.elem #[.agg #[.pointer (some ⟨4, 72, none⟩), .pointer (some a), .int .u64 150]]).run Tryz.prog W
  = .ok (.agg #[.pointer (some ⟨4, 70, none⟩), .pointer (some p), .int .u64 406]) W := by
 rw [as_rlm]
 simp only [Sem.run_bind, as_parts27, Result.andThen]
 simp [ReflectliteValue.elem, loadVar, isAgg, underlying, Tryz.underlying72, ha, Result.andThen, as_elemOf27, as_mk25]
theorem as_rls (v x : Value) : ReflectliteValue.set #[v, x] = (do
 let (some (dst, a, fl), some (src, b, _)) := (← ReflectliteValue.parts v, ← ReflectliteValue.parts x)
  | unsupported (.noEntry "extern/(internal/reflectlite.Value).Set.zeroValue")
 if fl / ReflectliteValue.flagAddr % 2 == 0 then unsupported (.noEntry "extern/(internal/reflectlite.Value).Set.unaddressable")
 let val ← loadVar src b
 if ← Rtype.directlyAssignable dst src then storeVar dst a val
 else if ← Rtype.implements dst src then
  if (← Rtype.kind src) == 20 then
   match val with
   | .nilIface => unsupported (.noEntry "extern/reflectlite: a nil value of one interface type handed on as a value of another")
   | _ => storeVar dst a val
  else storeVar dst a (.iface src val)
 else panicString ("reflectlite.Set: value of type " ++ (← Rtype.spelt src) ++ " is not assignable to type " ++ (← Rtype.spelt dst))
 pure (.tuple #[])) := rfl
theorem as_parts25a (a : Addr) (w : World) : (ReflectliteValue.parts (.agg #[.pointer (some ⟨4, 70, none⟩), .pointer (some a), .int .u64 406])).run Tryz.prog w = .ok (some (70, a, 406)) w := by kernel_rfl
theorem as_parts25 (a : Addr) (w : World) : (ReflectliteValue.parts (.agg #[.pointer (some ⟨4, 70, none⟩), .pointer (some a), .int .u64 150])).run Tryz.prog w = .ok (some (70, a, 150)) w := by kernel_rfl
theorem as_direct25 (w : World) : (Rtype.directlyAssignable 70 70).run Tryz.prog w = .ok true w := by kernel_rfl
theorem as_set25 (ta b e : Addr) (old : Value) (W : World) (hb : W.cell? b = some (.pointer (some e))) (ht : W.cell? ta = some old) (hf : W.frozen? ta = false) :
 (ReflectliteValue.set #[.agg #[.pointer (some ⟨4, 70, none⟩), .pointer (some ta), .int .u64 406], .agg #[.pointer (some ⟨4, 70, none⟩), .pointer (some b), .int .u64 150]]).run Tryz.prog W
  = .ok (.tuple #[]) (W.setCell ta (.pointer (some e))) := by
 rw [as_rls]
 simp only [Sem.run_bind, as_parts25a, as_parts25, Result.andThen]
 simp [ReflectliteValue.flagAddr, loadVar, isAgg, underlying, Tryz.underlying70, hb, Result.andThen, as_direct25, storeVar, Value.cells, storeCells, Addr.add]
 rw [run_store Tryz.prog W ta _ _ (by rfl)]
 simp [ht, hf]
set_option maxHeartbeats 4000000 in
theorem as_hit (e t : Addr) (old : Value) (w : World) (hg : w.cell? ⟨0, 0, none⟩ = some (.iface 144 (.agg #[.pointer (some ⟨4, 37, none⟩)]))) (ht0 : w.cell? t = some old) (hf0 : w.frozen? t = false) :
 Calls Tryz.prog 30 #[.iface 70 (.pointer (some e)), .iface 72 (.pointer (some t))] w fun ev w' => ev = .returned (.bool true) ∧ w' = ((((w.alloc (.cells #[.pointer (some t)] 72)).alloc (.cells #[.pointer (some ⟨4, 72, none⟩), .pointer (some ⟨w.heap.size, 0, none⟩), .int .u64 150] 100)).alloc (.cells #[.pointer (some ⟨4, 72, none⟩), .pointer (some ⟨w.heap.size, 0, none⟩), .int .u64 150] 100)).alloc (.cells #[.pointer (some e)] 70)).setCell t (.pointer (some e)) := by
 have h6 := @run_callFunc_extern Tryz.prog 46 _ (fun args => ReflectliteValue.unpack (args.getD 0 (.tuple #[]))) Tryz.func46 (by kernel_rfl) (by kernel_rfl) (by kernel_rfl) (by kernel_rfl)
 have h7 := @run_callFunc_extern Tryz.prog 47 _ (ReflectliteValue.methodAny (ReflectliteValue.valueError "reflectlite.Value.Type" 0) (fun t _ _ _ => ReflectliteType.toType t)) Tryz.func47 (by kernel_rfl) (by kernel_rfl) (by kernel_rfl) (by kernel_rfl)
 have h8 := @run_callFunc_extern Tryz.prog 48 _ (ReflectliteValue.method (ReflectliteValue.valueError "reflectlite.Value.IsNil" 0) ReflectliteValue.isNil) Tryz.func48 (by kernel_rfl) (by kernel_rfl) (by kernel_rfl) (by kernel_rfl)
 have h27 := @run_callFunc_extern Tryz.prog 156 _ (ReflectliteType.abiMethod fun t => do pure (.int .u8 (← Rtype.kind t))) Tryz.func156 (by kernel_rfl) (by kernel_rfl) (by kernel_rfl) (by kernel_rfl)
 have h37 := @run_callFunc_extern Tryz.prog 170 _ (ReflectliteType.method ReflectliteType.elem) Tryz.func170 (by kernel_rfl) (by kernel_rfl) (by kernel_rfl) (by kernel_rfl)
 have h38 := @run_callFunc_extern Tryz.prog 171 _ (ReflectliteType.relation "Implements" ReflectliteType.implements_) Tryz.func171 (by kernel_rfl) (by kernel_rfl) (by kernel_rfl) (by kernel_rfl)
 have h10 := @run_callFunc_extern Tryz.prog 72 _ ReflectliteType.typeOf Tryz.func72 (by kernel_rfl) (by kernel_rfl) (by kernel_rfl) (by kernel_rfl)
 have h35 := @run_callFunc_extern Tryz.prog 168 _ (ReflectliteType.relation "AssignableTo" ReflectliteType.assignableTo) Tryz.func168 (by kernel_rfl) (by kernel_rfl) (by kernel_rfl) (by kernel_rfl)
 have h11 := @run_callFunc_extern Tryz.prog 73 _ (ReflectliteValue.method (ReflectliteValue.valueError "reflectlite.Value.Elem" 0) ReflectliteValue.elem) Tryz.func73 (by kernel_rfl) (by kernel_rfl) (by kernel_rfl) (by kernel_rfl)
 have h12 := @run_callFunc_extern Tryz.prog 74 _ ReflectliteValue.set Tryz.func74 (by kernel_rfl) (by kernel_rfl) (by kernel_rfl) (by kernel_rfl)
 have tO := as_typeOf25
 have mA := as_methodAssignableTo
 have a25 := as_assignable25
 have v25 := as_valueOf25
 have f6 := as_valueOf27
 have f7 := as_type27
 have mK := as_methodKind
 have mE := as_methodElem
 have mI := as_methodImplements
 have k27 := as_kind27
 have k25 := as_kind25
 have e27 := as_elem27
 have i25 := as_implements25
 have n8 := as_isNil27 ⟨w.heap.size, 0, none⟩ t ((w.alloc (.cells #[.pointer (some t)] 72)).alloc (.cells #[.pointer (some ⟨4, 72, none⟩), .pointer (some ⟨w.heap.size, 0, none⟩), .int .u64 150] 100)) (by simp)
 have hlt : 0 < w.heap.size := by
  rcases Nat.lt_or_ge 0 w.heap.size with h | h
  ·exact h
  ·simp [World.cell?, Array.getElem?_eq_none h] at hg
 have hg2 : ((w.alloc (.cells #[.pointer (some t)] 72)).alloc (.cells #[.pointer (some ⟨4, 72, none⟩), .pointer (some ⟨w.heap.size, 0, none⟩), .int .u64 150] 100)).cell? ⟨0, 0, none⟩ = some (.iface 144 (.agg #[.pointer (some ⟨4, 37, none⟩)])) := by
  rw [World.cell?_alloc_lt _ _ ⟨0, 0, none⟩ (by simp <;> omega), World.cell?_alloc_lt _ _ ⟨0, 0, none⟩ hlt]; exact hg
 have htl : t.block < w.heap.size := by
  rcases Nat.lt_or_ge t.block w.heap.size with h | h
  ·exact h
  ·simp [World.cell?, Array.getElem?_eq_none h] at ht0
 have el := as_elemV27 ⟨w.heap.size, 0, none⟩ t (((w.alloc (.cells #[.pointer (some t)] 72)).alloc (.cells #[.pointer (some ⟨4, 72, none⟩), .pointer (some ⟨w.heap.size, 0, none⟩), .int .u64 150] 100)).alloc (.cells #[.pointer (some ⟨4, 72, none⟩), .pointer (some ⟨w.heap.size, 0, none⟩), .int .u64 150] 100)) (by rw [World.cell?_alloc_lt _ _ ⟨w.heap.size, 0, none⟩ (by simp; omega)]; simp)
 have st := as_set25 t ⟨w.heap.size + 1 + 1 + 1, 0, none⟩ e old ((((w.alloc (.cells #[.pointer (some t)] 72)).alloc (.cells #[.pointer (some ⟨4, 72, none⟩), .pointer (some ⟨w.heap.size, 0, none⟩), .int .u64 150] 100)).alloc (.cells #[.pointer (some ⟨4, 72, none⟩), .pointer (some ⟨w.heap.size, 0, none⟩), .int .u64 150] 100)).alloc (.cells #[.pointer (some e)] 70))
  (by rw [World.cell?_alloc_at _ _ _ _ (by simp)]; rfl)
  (by rw [World.cell?_alloc_lt _ _ t (by simp; omega), World.cell?_alloc_lt _ _ t (by simp; omega), World.cell?_alloc_lt _ _ t (by simp; omega), World.cell?_alloc_lt _ _ t htl]; exact ht0)
  (by rw [World.frozen?_alloc_old _ _ t (by simp; omega), World.frozen?_alloc_old _ _ t (by simp; omega), World.frozen?_alloc_old _ _ t (by simp; omega), World.frozen?_alloc_old _ _ t (Nat.ne_of_lt htl)]; exact hf0)
 go_enter Tryz.func30, Tryz.ntmps30
 go_wp2
 refine wp_loop_rounds 1 ?_
 rw [rounds_succ]
 go_wp2
 go_ret
 exact ⟨rfl, rfl⟩
def Ety (w : World) : Prop := w.cell? ⟨0, 0, none⟩ = some (.iface 144 (.agg #[.pointer (some ⟨4, 37, none⟩)]))
end Go.Proofs.YtmmlkfkpblokiaaGreatDoor
namespace Go.Proofs.YtmmlkfkpblokiaaGreatDoor
set_option maxRecDepth 100000
open Go Go.RowKit Go.Sort
attribute [local go_sem] setCell_drewN alloc_drewN
end Go.Proofs.YtmmlkfkpblokiaaGreatDoor

