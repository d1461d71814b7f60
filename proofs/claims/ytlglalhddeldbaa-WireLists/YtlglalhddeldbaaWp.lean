import Derived.Test.YtlglalhddeldbaaProg
import Derived.WalkKit
import Derived.WalkSpells
import Derived.WalkLawsBesides
import Derived.Lib.QuietBelow
import Derived.Laws.BitsAllLaws
import Derived.BigQuiet
import Derived.WalkMore
import Derived.Test.YtlglalhddeldbaaKit
import Derived.Deep.Slices
import Derived.Test.YtlglalhddeldbaaWo
import Derived.Test.YtlglalhddeldbaaWl
namespace Go.Proofs.Ytlglalhddeldbaa
open Go Go.RowKit Go.Sort
attribute [local go_sem] setCell_drewN alloc_drewN

theorem ri_itm {p : List B} (hp : p.length < 18446744073709551616) (r : List B) : ri (itm p ++ r) = .ok p (itm p).length := by
  have h := rd0_en hp (p ++ r)
  have e : itm p ++ r = en p.length ++ (p ++ r) := by rw [itm, List.append_assoc]
  rw [e, ri_of h, if_neg (by rw [List.length_append, List.length_append]; omega), List.drop_left, List.take_left, itm_len]
theorem itm_ne (p r : List B) : itm p ++ r ≠ [] := by
  intro h
  have h1 := congrArg List.length h
  rw [List.length_append, itm_len, List.length_nil] at h1
  have := en_pos p.length
  omega
/-- What was joined is split. -/
theorem spl_jn : ∀ (ps : List (List B)) (p c : Nat), c + ps.length ≤ 4096 → (∀ x ∈ ps, x.length < 18446744073709551616) → spl (jn ps).length p c (jn ps) = .ok ps
  | [], p, c, _, _ => rfl
  | x :: l, p, c, hc, hx => by
    rw [List.length_cons] at hc
    have h1 := ri_itm (hx x (by simp)) (jn l)
    have h2 := spl_step (p := p) (c := c) (itm_ne x (jn l)) (by omega) h1
    rw [List.drop_left] at h2
    rw [jn, h2, spl_jn l _ _ (by omega) (fun y hy => hx y (by simp [hy]))]
    rfl
theorem gp_mem {ps : List (List B)} {x : List B} (h : x ∈ ps) : ∃ i, i < ps.length ∧ gp ps i = x := by
  obtain ⟨i, hi, e⟩ := List.getElem_of_mem h
  exact ⟨i, hi, by rw [gp, List.getD_eq_getElem?_getD, List.getElem?_eq_getElem hi]; exact e⟩
theorem sp_jn {ps : List (List B)} (h1 : ps.length ≤ 4096) (h2 : (jn ps).length ≤ 4194304) (hx : ∀ i, i < ps.length → (gp ps i).length ≤ 140737488351232) : sp (jn ps) = .ok ps := by
  rw [sp, if_neg (by omega), spl_jn ps 0 0 (by omega) (fun x h => by obtain ⟨i, hi, rfl⟩ := gp_mem h; have := hx i hi; omega)]
theorem j_two : jer [[], [1#8]] = 0 ∧ jout [[], [1#8]] = [0#8, 1#8, 1#8] := by
  have h1 : jn [[], [1#8]] = [0#8, 1#8, 1#8] := by
    rw [jn, jn_one, itm, itm, List.length_singleton, List.length_nil, en_lo (by decide), en_lo (by decide)]; rfl
  have hnb : ¬ jbad [[], [1#8]] := by unfold jbad; rw [h1]; simp
  exact ⟨if_neg hnb, (if_neg hnb).trans h1⟩
theorem PcB.at2 {W : World} {v : Value} {ps : List (List B)} (h : PcB W v ps) : ∀ i, i < ps.length → (gp ps i).length ≤ 140737488351232 := by
  intro i hi
  obtain ⟨_, _, _, _, _, hc⟩ := h
  obtain ⟨_, _, _, _, _, _, _, q⟩ := hc i hi
  exact q
/-- The values of items handed in. -/
theorem pcb_vals {W : World} {v : Value} {ps : List (List B)} (h : PcB W v ps) : ∃ (us : List Value) (ao : Option Addr) (cap : Nat), v = .slice ao ps.length cap ∧ us.length = ps.length ∧ (ao = none → us = [] ∧ cap = 0) ∧ (∀ ad, ao = some ad → ∀ j u, us[j]? = some u → W.cell? (ad.add j) = some u) ∧ (∀ i, i < ps.length → BysB W (gv us i) (gp ps i)) ∧ (∀ u ∈ us, u.oneCell' = true) := by
  obtain ⟨ao, cap, rfl, hl, hn, hc⟩ := h
  obtain ⟨f, hf⟩ := Go.Deep.choose_lt (α := Value) (p := fun i u => ∃ b off, ao = some ⟨b, off, none⟩ ∧ b < W.heap.size ∧ W.cell? ⟨b, off + i, none⟩ = some u ∧ BysB W u (gp ps i)) (n := ps.length) (fun i hi => by
    obtain ⟨b, off, u, e, h1, h2, h3, _⟩ := hc i hi
    exact ⟨u, b, off, e, h1, h2, h3⟩)
  have hget : ∀ i, i < ps.length → ((List.range ps.length).map f)[i]? = some (f i) := fun i hi => by rw [List.getElem?_map, List.getElem?_range hi]; rfl
  refine ⟨(List.range ps.length).map f, ao, cap, rfl, by simp, fun e => ?_, fun ad e j u hu => ?_, fun i hi => ?_, fun u hu => ?_⟩
  · refine ⟨?_, hn e⟩
    rcases Nat.eq_zero_or_pos ps.length with q | q
    · rw [q]; rfl
    · obtain ⟨b, off, e2, _⟩ := hf 0 q
      rw [e] at e2; cases e2
  · have hj : j < ps.length := by have := (List.getElem?_eq_some_iff.1 hu).1; simpa using this
    obtain ⟨b, off, e2, _, h2, _⟩ := hf j hj
    rw [hget j hj] at hu
    cases hu
    rw [e] at e2
    cases e2
    rw [addr_add]
    exact h2
  · obtain ⟨_, _, _, _, _, h3⟩ := hf i hi
    have : gv ((List.range ps.length).map f) i = f i := by rw [gv, List.getD_eq_getElem?_getD, hget i hi]; rfl
    rw [this]
    exact h3
  · obtain ⟨i, hi, rfl⟩ := List.mem_map.1 hu
    obtain ⟨_, _, _, _, _, h3⟩ := hf i (List.mem_range.1 hi)
    obtain ⟨ao2, c2, e2⟩ := h3.form
    rw [e2]
    rfl
/-- Values laid behind a list of one's own. -/
theorem wp_append_vals {w : World} {o : Oper} {a : Act} {K : Act → World → Prop} {Q : Exit → Act → World → Prop} (s x : Operand) (ho : o.op = .call { callee := .builtin .append, args := #[s, x], argTypes := #[36, 36] })
    (base : Nat) (v : Value) (us : List Value) (hs : a.eval s = v) (hO : w.ownsRow base 22 1 v us.length us) (ao : Option Addr) (n cap : Nat) (vs : List Value) (hx : a.eval x = .slice ao n cap) (hn : vs.length = n) (hnone : ao = none → vs = [] ∧ cap = 0) (hc : ∀ ad, ao = some ad → ∀ j u, vs[j]? = some u → w.cell? (ad.add j) = some u) (h1 : ∀ u ∈ vs, u.oneCell' = true) (hlen : (us.length + n) * 24 ≤ 140737488355328) (hbase : base ≤ w.heap.size)
    (h : ∀ v' w', w'.ownsRow base 22 1 v' (us ++ vs).length (us ++ vs) → w.grownBy w' v.ownBlock → K (a.put o.dst v') w') : o.wp Try.prog a w K Q := by
  obtain ⟨i0, hi, hz0, hz1, hz2⟩ := info24
  subst hn
  cases ao with
  | some ad =>
    refine wp_append_own w s x 36 ho base 22 i0 (.slice none 0 0) 1 24 Try.underlying36 hi hz0 hz1 hz2 rfl (by decide) v us.length us hs hO ad vs.length cap vs hx (by rw [Nat.mul_one]) (hc ad rfl) h1 (by unfold maxLen; omega) hlen hbase (fun v' w' h2 h3 _ => h v' w' (by rw [List.length_append]; exact h2) h3)
  | none =>
    obtain ⟨rfl, rfl⟩ := hnone rfl
    have hrun := run_append_owned_none (P := Try.prog) w base 36 o.type 22 i0 1 Try.underlying36 hi _ us.length _ hO
    rw [List.length_nil] at hx
    unfold Oper.wp
    simp [execOp, ho, resolve, invoke, builtin, hs, hx, hrun, Result.andThen]
    have h_ := h v w (by rw [List.append_nil]; exact hO) (World.grownBy.refl _ _)
    exact h_
theorem blk_of {w : World} {a : Addr} {v : Value} (h : w.cell? a = some v) : a.block < w.heap.size := by
  rcases Nat.lt_or_ge a.block w.heap.size with q | q
  · exact q
  · simp [World.cell?, Array.getElem?_eq_none q] at h
theorem gv_app {us vs : List Value} {i : Nat} : gv (us ++ vs) i = if i < us.length then gv us i else gv vs (i - us.length) := by
  split
  · rename_i h; rw [gv, gv, List.getD_eq_getElem?_getD, List.getElem?_append_left h, ← List.getD_eq_getElem?_getD]
  · rename_i h; rw [gv, gv, List.getD_eq_getElem?_getD, List.getElem?_append_right (by omega), ← List.getD_eq_getElem?_getD]
theorem gp_app {a b : List (List B)} {i : Nat} : gp (a ++ b) i = if i < a.length then gp a i else gp b (i - a.length) := by
  split
  · rename_i h; rw [gp, gp, List.getD_eq_getElem?_getD, List.getElem?_append_left h, ← List.getD_eq_getElem?_getD]
  · rename_i h; rw [gp, gp, List.getD_eq_getElem?_getD, List.getElem?_append_right (by omega), ← List.getD_eq_getElem?_getD]
theorem pcb_of_own {W : World} {b : Nat} {v : Value} {us : List Value} {ps : List (List B)} (ho : W.ownsRow b 22 1 v us.length us) (hl : us.length = ps.length) (hn : ps.length ≤ 5864062014634) (hb : ∀ i, i < ps.length → BysB W (gv us i) (gp ps i) ∧ (gp ps i).length ≤ 140737488351232) : PcB W v ps := by
  have h1 := ho
  obtain ⟨_, ⟨rfl, h0⟩ | ⟨g, cap, cur, rfl, hbb, hg, _⟩⟩ := h1
  · exact ⟨none, 0, by rw [← hl, h0], hn, fun _ => rfl, fun i hi => by omega⟩
  · refine ⟨some ⟨g, 0, none⟩, cap, by rw [hl], hn, (fun e => by cases e), fun i hi => ⟨g, 0, gv us i, rfl, lt_of_row hg, ?_, (hb i hi).1, (hb i hi).2⟩⟩
    have := ho.cells (g := g) rfl i (gv us i) (gvb (by omega))
    rw [addr_add] at this
    exact this
theorem bys_empty (W : World) : BysB (W.alloc (.cells #[] 5)) (.slice (some ⟨W.heap.size, 0, none⟩) 0 0) [] := bysB_row (bs := []) (T := []) (hp1_0 W _) (by simp) 0
theorem bys_three (W : World) (x y z : B) : BysB (W.alloc (.cells #[.int .u8 (bv x), .int .u8 (bv y), .int .u8 (bv z)] 5)) (.slice (some ⟨W.heap.size, 0, none⟩) 3 3) [x, y, z] :=
  bysB_row (bs := [x, y, z]) (T := []) (hp1_0 W _) (by simp) 3
set_option maxRecDepth 100000 in
set_option maxHeartbeats 8000000 in
theorem lists_any (ps qs : List (List B)) (W : World) (v u : Value) (hP : PcB W v ps) (hQ : PcB W u qs) : Calls Try.prog 8 #[v, u] W fun e w' => e = .returned (.bool true) ∧ Below W.heap.size W w' := by
  have hpl := hP.len
  have hql := hQ.len
  have hp2 := hide hP.at2
  have hq2 := hide hQ.at2
  obtain ⟨us, ao, ac, rfl, hul, hun, huc, hub, hu1⟩ := pcb_vals hP
  obtain ⟨vs, bo, bc, rfl, hvl, hvn, hvc, hvb, hv1⟩ := pcb_vals hQ
  replace hub := hide hub
  replace hvb := hide hvb
  replace huc := hide huc
  replace hvc := hide hvc
  replace hun := hide hun
  replace hvn := hide hvn
  replace hul := hide hul
  replace hvl := hide hvl
  replace hu1 := hide hu1
  replace hv1 := hide hv1
  go_enter Try.func8, Try.ntmps8
  have cX := a_join ps W _ hP
  go_wp2_with (fail)
  refine cX.mono ?_
  rintro e_ w1 ⟨x, rfl, hx, hb⟩
  have hw := hb
  clear hb cX
  have cX := a_join qs w1 _ (hQ.keep hw)
  go_wp2_with (fail)
  refine cX.mono ?_
  rintro e_ w2 ⟨y, rfl, hy, hb⟩
  replace hw := Below.after hw hb
  replace hx := hx.keep hb
  clear hb cX
  have hb3 : Below w2.heap.size w2 (((w2.alloc (.cells #[] 5)).alloc (.cells #[.int .u8 1] 5)).alloc (.cells #[.slice (some ⟨w2.heap.size, 0, none⟩) 0 0, .slice (some ⟨w2.heap.size + 1, 0, none⟩) 1 1] 22)) := (((Below.refl _ _).alloc (Nat.le_refl _) _).alloc (by simp) _).alloc (by simp; omega) _
  have hP3 : PcB (((w2.alloc (.cells #[] 5)).alloc (.cells #[.int .u8 1] 5)).alloc (.cells #[.slice (some ⟨w2.heap.size, 0, none⟩) 0 0, .slice (some ⟨w2.heap.size + 1, 0, none⟩) 1 1] 22)) (.slice (some ⟨w2.heap.size + 1 + 1, 0, none⟩) 2 2) [[], [1#8]] := by
    refine ⟨_, _, rfl, by simp, (fun e => by cases e), fun i hi => ?_⟩
    have hi2 : i < 2 := by simpa using hi
    rcases (by omega : i = 0 ∨ i = 1) with rfl | rfl
    · refine ⟨w2.heap.size + 1 + 1, 0, .slice (some ⟨w2.heap.size, 0, none⟩) 0 0, rfl, by simp, cell_of_row _ _ _ _ _ _ (hp3_2 w2 _ _ _), ?_, by simp [gp]⟩
      exact (bys_empty w2).keep (((Below.refl _ _).alloc (Nat.le_refl _) _).alloc (by simp) _)
    · refine ⟨w2.heap.size + 1 + 1, 0, .slice (some ⟨w2.heap.size + 1, 0, none⟩) 1 1, rfl, by simp, cell_of_row _ _ _ _ _ _ (hp3_2 w2 _ _ _), ?_, by simp [gp]⟩
      have h := bys_one (w2.alloc (.cells #[] 5)) 1#8
      rw [size_alloc1] at h
      exact h.keep ((Below.refl _ _).alloc (Nat.le_refl _) _)
  have cJ := a_join [[], [1#8]] _ _ hP3
  rw [j_two.1, j_two.2] at cJ
  replace hw := Below.after hw hb3
  replace hx := hx.keep hb3
  replace hy := hy.keep hb3
  clear hP3 hb3
  go_wp2_with (fail)
  generalize (((w2.alloc (.cells #[] 5)).alloc (.cells #[.int .u8 1] 5)).alloc (.cells #[.slice (some ⟨w2.heap.size, 0, none⟩) 0 0, .slice (some ⟨w2.heap.size + 1, 0, none⟩) 1 1] 22)) = w3 at *
  refine cJ.mono ?_
  rintro e_ w4 ⟨z, rfl, hz, hb⟩
  replace hw := Below.after hw hb
  replace hx := hx.keep hb
  replace hy := hy.keep hb
  clear cJ hb
  have hb5 : Below w4.heap.size w4 (w4.alloc (.cells #[.int .u8 0, .int .u8 1, .int .u8 1] 5)) := (Below.refl _ _).alloc (Nat.le_refl _) _
  have hT : BysB (w4.alloc (.cells #[.int .u8 0, .int .u8 1, .int .u8 1] 5)) (.slice (some ⟨w4.heap.size, 0, none⟩) 3 3) [0#8, 1#8, 1#8] := bys_three w4 0#8 1#8 1#8
  have cS := same_any (bl [0#8, 1#8, 1#8]) _ z _ (hz.keep hb5).bys hT.1
  replace hw := Below.after hw hb5
  replace hx := hx.keep hb5
  replace hy := hy.keep hb5
  clear hz hT hb5
  go_wp2_with (fail)
  generalize w4.alloc (.cells #[.int .u8 0, .int .u8 1, .int .u8 1] 5) = w5 at *
  refine cS.mono ?_
  rintro e_ w6 ⟨rfl, hb⟩
  replace hw := Below.after hw hb
  replace hx := hx.keep hb
  replace hy := hy.keep hb
  clear cS hb
  by_cases ha : jbad ps
  · have e1 : jer ps = 2 := if_pos ha
    rw [e1]
    clear hP hQ hx hy ha e1
    go_wp2_with (fail)
    go_ret
    exact ⟨rfl, hw⟩
  by_cases hb_ : jbad qs
  · have e1 : jer ps = 0 := if_neg ha
    have e2 : jer qs = 2 := if_pos hb_
    rw [e1, e2]
    clear hP hQ hx hy ha e1 e2 hb_
    go_wp2_with (fail)
    go_ret
    exact ⟨rfl, hw⟩
  have e1 : jer ps = 0 := if_neg ha
  have e2 : jer qs = 0 := if_neg hb_
  have e3 : jout ps = jn ps := if_neg ha
  have e4 : jout qs = jn qs := if_neg hb_
  rw [e1, e2]
  rw [e3] at hx
  rw [e4] at hy
  unfold jbad at ha hb_
  have hxB := hx.bysB (by omega)
  have hsp := sp_jn (by omega) (by omega) hp2.out
  have hsp2 : ps.length + qs.length ≤ 4096 → (jn ps).length + (jn qs).length ≤ 4194304 → sp (jn ps ++ jn qs) = .ok (ps ++ qs) := fun h1 h2 => by
    rw [← jn_app]
    refine sp_jn (by rw [List.length_append]; omega) (by rw [jn_app, List.length_append]; omega) (fun i hi => ?_)
    rw [List.length_append] at hi
    rw [gp_app]
    split
    · rename_i h; exact hp2.out i h
    · rename_i h; exact hq2.out _ (by omega)
  replace hsp2 := hide hsp2
  clear e1 e2 e3 e4
  have cX := a_split (jn ps) w6 x hxB (own_capB hx)
  rw [hsp] at cX
  simp only [spa, spe, spp] at cX
  obtain ⟨xo, xc, hxe⟩ := slen_own hx
  obtain ⟨yo, yc, hye⟩ := slen_own hy
  generalize hXl : jn ps = X at *
  generalize hYl : jn qs = Y at *
  subst hxe
  subst hye
  clear hXl hYl hsp
  have hyB := hy.bysB (by omega)
  go_wp2_with (fail)
  refine cX.mono ?_
  rintro e_ w7 ⟨l, us2, rfl, hI, hb⟩
  replace hw := Below.after hw hb
  replace hx := hx.keep hb
  replace hy := hy.keep hb
  replace hxB := hxB.keep hb
  replace hyB := hyB.keep hb
  clear cX hb
  have cI := l_items ps w7 l _ (hI.pcb (by omega) hp2.out) (hP.keep hw)
  clear hI
  go_wp2_with (fail)
  refine cI.mono ?_
  rintro e_ w8 ⟨rfl, hb⟩
  replace hw := Below.after hw hb
  replace hx := hx.keep hb
  replace hy := hy.keep hb
  replace hxB := hxB.keep hb
  replace hyB := hyB.keep hb
  clear cI hb
  by_cases q1 : 4096 < ps.length + qs.length
  · have d1 : decide ((ps.length : Int) + (qs.length : Int) > 4096) = true := by simp; omega
    clear hP hQ hx hy
    go_wp2_with (fail)
    go_ret
    exact ⟨rfl, hw⟩
  have d1 : decide ((ps.length : Int) + (qs.length : Int) > 4096) = false := by simp; omega
  by_cases q2 : 4194304 < X.length + Y.length
  · have d2 : decide ((X.length : Int) + (Y.length : Int) > 4194304) = true := by simp; omega
    clear hP hQ hx hy
    go_wp2_with (fail)
    go_ret
    exact ⟨rfl, hw⟩
  have d2 : decide ((X.length : Int) + (Y.length : Int) > 4194304) = false := by simp; omega
  have hsp := hsp2.out (by omega) (by omega)
  have hsz := hw.size
  have hb0 : Below w8.heap.size w8 (w8.alloc (.cells #[] 5)) := (Below.refl _ _).alloc (Nat.le_refl _) _
  have hOn := own_nil w8
  have hE := hxB.keep hb0
  clear hx hy hsp2
  go_wp2_with (at_builtin; suffices h9 : True ∧ _ from h9.2)
  refine ⟨trivial, ?_⟩
  refine wpList_append_B rfl (.tmp 77) (.tmp 78) rfl w8.heap.size _ [] rfl hOn _ X rfl hE (by simp only [List.length_nil]; omega) hb0.size ?_
  intro v9 w9 hO9 hgr
  rw [List.nil_append] at hO9
  have hb9 := hb0.grown hgr hb0.size (own_low hOn)
  replace hyB := hyB.keep hb9
  have hs9 := hb9.size
  clear hgr hOn hE hb0 hxB
  obtain ⟨o9, c9, rfl⟩ := slen_own hO9
  go_wp2_with (at_builtin; suffices h9 : True ∧ _ from h9.2)
  refine ⟨trivial, ?_⟩
  refine wpList_append_B rfl (.tmp 79) (.tmp 80) rfl w8.heap.size _ X rfl hO9 _ Y rfl hyB (by omega) hs9 ?_
  intro v10 w10 hO10 hgr
  have hb10 := hb9.grown hgr hs9 (own_low hO9)
  replace hw := Below.after hw hb10
  have hB10 := hO10.bysB (by rw [List.length_append]; omega)
  have cX := a_split (X ++ Y) w10 v10 hB10 (own_capB hO10)
  rw [hsp] at cX
  simp only [spa, spe, spp] at cX
  obtain ⟨o10, c10, hv10⟩ := slen_own hO10
  clear hgr hO9 hyB hb9 hB10 hsp hb10 hO10
  generalize hXY : X ++ Y = XY at *
  subst hv10
  go_wp2_with (fail)
  refine cX.mono ?_
  rintro e_ w11 ⟨m, us3, rfl, hI, hb⟩
  replace hw := Below.after hw hb
  have hM := hI.pcb (by rw [List.length_append]; omega) (fun i hi => by
    rw [List.length_append] at hi
    rw [gp_app]
    split
    · rename_i h; exact hp2.out i h
    · rename_i h; exact hq2.out _ (by omega))
  clear cX hb hI
  have hb12 : Below w11.heap.size w11 (w11.alloc (.cells #[] 22)) := (Below.refl _ _).alloc (Nat.le_refl _) _
  have hw12 := Below.after hw hb12
  have hI0 := its_empty w11
  go_wp2_with (at_builtin; suffices h9 : True ∧ _ from h9.2)
  refine ⟨trivial, ?_⟩
  refine BigFrame.wpList_want rfl fun _ hK => wp_append_vals (.tmp 92) (.tmp 93) rfl w11.heap.size _ [] rfl hI0.1 ao ps.length ac us rfl hul.out hun.out (fun ad e j u hu => (hw12.cell (p := ad.add j) (by
      have := huc.out ad e j u hu
      exact blk_of this)).trans (huc.out ad e j u hu)) hu1.out (by simp only [List.length_nil]; omega) hb12.size (fun v13 w13 hO13 hgr => hK _ _ ?_)
  have hb13 := hb12.grown hgr hb12.size (fun k e => (own_high_row hI0.1 k e).1)
  have hw13 := Below.after hw hb13
  have hs13 := hb13.size
  clear hgr hI0 hb12 hw12
  rw [List.nil_append] at hO13
  obtain ⟨o13, c13, hv13⟩ := slen_own hO13
  have hul2 : us.length ≤ 4096 := by rw [hul.out]; omega
  subst hv13
  go_wp2_with (at_builtin; suffices h9 : True ∧ _ from h9.2)
  refine ⟨trivial, ?_⟩
  refine BigFrame.wpList_want rfl fun _ hK => wp_append_vals (.tmp 94) (.tmp 95) rfl w11.heap.size _ us rfl hO13 bo qs.length bc vs rfl hvl.out hvn.out (fun ad e j u hu => (hw13.cell (p := ad.add j) (by
      have := hvc.out ad e j u hu
      exact blk_of this)).trans (hvc.out ad e j u hu)) hv1.out (by omega) hs13 (fun v14 w14 hO14 hgr => hK _ _ ?_)
  have hb14 := hb13.grown hgr hs13 (fun k e => (own_high_row hO13 k e).1)
  replace hw := Below.after hw hb14
  replace hM := hM.keep hb14
  have hN : PcB w14 v14 (ps ++ qs) := pcb_of_own hO14 (by rw [List.length_append, List.length_append, hul.out, hvl.out]) (by rw [List.length_append]; omega) (fun i hi => by
    rw [List.length_append] at hi
    rw [gv_app, gp_app, hul.out]
    split
    · rename_i h; exact ⟨(hub.out i h).keep hw, hp2.out i h⟩
    · rename_i h; exact ⟨(hvb.out _ (by omega)).keep hw, hq2.out _ (by omega)⟩)
  have cI := l_items (ps ++ qs) w14 m _ hM hN
  clear hM hN hO13 hO14 hgr hb13 hw13 hb14
  generalize ps ++ qs = PQ at *
  go_wp2_with (fail)
  refine cI.mono ?_
  rintro e_ w15 ⟨rfl, hb⟩
  replace hw := Below.after hw hb
  clear cI hb
  go_wp2_with (fail)
  go_ret
  exact ⟨rfl, hw⟩
end Go.Proofs.Ytlglalhddeldbaa
