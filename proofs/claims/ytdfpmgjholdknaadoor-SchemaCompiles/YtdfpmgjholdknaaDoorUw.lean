import Derived.Test.YtdfpmgjholdknaaDoorUp
namespace Go.Proofs.YtdfpmgjholdknaaDoor
set_option maxRecDepth 100000
open Go Go.RowKit Go.Sort
attribute [local go_sem] setCell_drewN alloc_drewN
/-- A schema in memory of its own: its list in the first block, the lists within it in blocks one behind the other. -/
inductive HSx (W : World) : Nat → Nat → Value → List Slt → Prop
  | mk (lo hi : Nat) (ts : List Slt) (us : List Value) (p : Nat → Nat) (hl : ts.length ≤ 10000) (hG : lo < W.heap.size) (hh : hi ≤ W.heap.size) (hp0 : lo < hi)
      (hp : ∀ i, i < ts.length → lo < p i ∧ p i ≤ p (i + 1) ∧ p (i + 1) ≤ hi)
      (hcs : ∃ cs T, W.heap[lo]? = some (.cells cs T (0, 0)) ∧ cs.size = (ts.length + 3) * 5)
      (h : ∀ i, i < ts.length → W.rangeAt lo (i * 5) (srow (gs ts i) (gvs us i)) ∧ Sok (gs ts i))
      (hm : ∀ i, ts.length ≤ i → i < ts.length + 3 → W.rangeAt lo (i * 5) hmk)
      (hs : ∀ i, i < ts.length → HSx W (p i) (p (i + 1)) (gvs us i) (gs ts i).sub) : HSx W lo hi (.slice (some ⟨lo, 0, none⟩) ts.length (ts.length + 3)) ts
theorem HSx.sl {W : World} {lo hi : Nat} {v : Value} {ts : List Slt} (h : HSx W lo hi v ts) : HSl W (fun b => lo ≤ b ∧ b < hi) v ts := by
  induction h with
  | mk lo hi ts us p hl hG hh hp0 hp hcs h hm hs ih =>
    refine .mk lo ts us hl hG ⟨Nat.le_refl _, hp0⟩ h hm (fun i hi => (ih i hi).keep (Nat.le_refl _) fun b _ hb => ⟨rfl, ?_⟩)
    have := hp i hi
    omega
theorem HSx.keep {W V : World} {lo hi : Nat} {v : Value} {ts : List Slt} (h : HSx W lo hi v ts) (hs : W.heap.size ≤ V.heap.size) : (∀ b, lo ≤ b → b < hi → V.heap[b]? = W.heap[b]?) → HSx V lo hi v ts := by
  induction h with
  | mk lo hi ts us p hl hG hh hp0 hp hcs h hm _ ih =>
    intro hb
    have h0 := hb lo (Nat.le_refl _) hp0
    refine .mk lo hi ts us p hl (by omega) (by omega) hp0 hp (by rw [h0]; exact hcs) (fun i hi => ⟨range_same (h i hi).1 h0, (h i hi).2⟩) (fun i h1 h2 => range_same (hm i h1 h2) h0) (fun i hi => ih i hi fun b h1 h2 => hb b (by have := hp i hi; omega) (by have := hp i hi; omega))
theorem HSx.form {W : World} {lo hi : Nat} {v : Value} {ts : List Slt} (h : HSx W lo hi v ts) : v = .slice (some ⟨lo, 0, none⟩) ts.length (ts.length + 3) ∧ lo < hi := by
  cases h with
  | mk lo hi _ us p hl hG hh hp0 hp hcs h hm hs => exact ⟨rfl, hp0⟩
set_option maxRecDepth 100000 in
set_option maxHeartbeats 16000000 in
theorem l_handx {W : World} {v : Value} {ts : List Slt} (h : Slo W v ts) : ∀ (l : Int), l ≤ 10000 → 0 ≤ slL ts l → ∀ (w : World), Below W.heap.size W w → Calls Tryd.prog 13 #[v] w fun e w' => ∃ v', e = .returned v' ∧ Below w.heap.size w w' ∧ HSx w' w.heap.size w'.heap.size v' ts := by
  induction h with
  | mk ao cap ts us hl hc hn h hs ih =>
    intro l hl1 hl2 w hw
    have hlen := slL_len ts l hl2
    have h4 : ts.length ≤ 10000 := by omega
    obtain ⟨cs, hmk, hcs1, hcs2⟩ := make_sl (ts.length + 3) (by omega) w
    have hmk' : (Instr.makeSlice 22 (.int .i64 ((ts.length : Int) + 3)) (.int .i64 ((ts.length : Int) + 3))).run Tryd.prog w = .ok (.slice (some ⟨w.heap.size, 0, none⟩) (ts.length + 3) (ts.length + 3)) (w.alloc (.cells cs 55)) := hmk
    have hR0 : Hrw (w.alloc (.cells cs 55)) w.heap.size ts [] 0 := ⟨cs, hp1_0 w _, hcs1, fun i c h1 h2 => by unfold hrow; rw [if_neg (by omega)]; exact hcs2 i c h1 h2⟩
    have hba : Below w.heap.size w (w.alloc (.cells cs 55)) := (Below.refl _ _).alloc (Nat.le_refl _) _
    have hsz : (w.alloc (.cells cs 55)).heap.size = w.heap.size + 1 := size_alloc1 _ _
    clear hmk hcs1 hcs2
    go_enter Tryd.func13, Tryd.ntmps13
    go_wp2_with (fail)
    generalize w.alloc (.cells cs 55) = w0 at *
    clear hmk'
    generalize hG : w.heap.size = G at *
    replace hG := hide hG
    go_loopw [4] (fun i wr => ∃ (k : Nat) (vs : List Value) (p : Nat → Nat), k ≤ ts.length + 3 ∧ i = .int .i64 k ∧ Below G w wr ∧ G < wr.heap.size ∧ vs.length = min k ts.length ∧ Hrw wr G ts vs k ∧ G < p (min k ts.length) ∧ p (min k ts.length) = wr.heap.size ∧ ∀ i, i < min k ts.length → (G < p i ∧ p i ≤ p (i + 1) ∧ p (i + 1) ≤ wr.heap.size) ∧ HSx wr (p i) (p (i + 1)) (gvs vs i) (gs ts i).sub) (fun i _ => ts.length + 3 - (intOf i).toNat)
    case atStart => exact ⟨0, [], fun _ => w0.heap.size, by omega, rfl, hba, by omega, by simp, hR0, by show G < w0.heap.size; omega, rfl, fun i hi => by omega⟩
    case round =>
      clear hR0 hba hsz
      obtain ⟨k, vs, p, hk, rfl, hB, hGl, hvl, hR, hpG, hpk, hN⟩ := hrel
      have hww : Below W.heap.size W wr := hw.trans (hB.mono (by rw [← hG.out]; exact hw.size))
      by_cases hlt : k < ts.length + 3
      · have hd : decide ((k : Int) < (ts.length : Int) + 3) = true := by simp; omega
        have hd' : ((k : Int) < (ts.length : Int) + 3) := by omega
        have hk1 : 0 ≤ (k : Int) ∧ (k : Int) < (ts.length : Int) + 3 := by omega
        obtain ⟨cc, hcc, hcz, hcv⟩ := id hR
        have fz : wr.frozen? ⟨G, k * 5, none⟩ = false := by simp [World.frozen?, hcc]
        have fc : wr.cell? ⟨G, k * 5, none⟩ = some (.int .i64 0) := by
          rw [cell_of_row _ _ _ _ _ _ hcc]
          have := hcv k 0 hlt (by omega)
          rw [Nat.add_zero] at this
          rw [this]; unfold hrow; rw [if_neg (by omega)]; rfl
        by_cases hkn : k < ts.length
        · have hd2 : decide ((k : Int) < (ts.length : Int)) = true := by simp; omega
          obtain ⟨b, off, hao, hbl, hra, hok⟩ := h k hkn
          have hSl := hs k hkn
          obtain ⟨l', hl3, hl4⟩ := slL_at ts l k hl2 hkn
          have hih := ih k hkn l' (by omega) hl4
          subst hao
          have hGb : W.heap.size ≤ G := by rw [← hG.out]; exact hw.size
          have hbG : b ≠ G := by omega
          obtain ⟨ua, uc, hue⟩ := hSl.form
          rw [Nat.min_eq_left (by omega)] at hvl hN hpG hpk
          have hB1 : Below G w (wr.setCell ⟨G, k * 5, none⟩ (.int .i64 (-77))) := hB.setCell (Nat.le_refl _) _
          have hsz1 : (wr.setCell ⟨G, k * 5, none⟩ (.int .i64 (-77))).heap.size = wr.heap.size := by simp
          have hra1 : (wr.setCell ⟨G, k * 5, none⟩ (.int .i64 (-77))).rangeAt b (off + k * 5) (srow (gs ts k) (gvs us k)) := range_same (rangeS_keep2 hra hww hbl) (heap_setCell_other _ _ b _ hbG)
          have hth : (wr.setCell ⟨G, k * 5, none⟩ (.int .i64 (-77))).there G (k * 5) 5 := there_of_row (heap_setCell_same wr G (k * 5) cc _ _ hcc) (by simp; omega)
          have hR1 := fun (V : World) (u v : Value) hV => hR.slot (V := V) (u := u) (v := v) hkn hvl hV
          generalize hgt : gs ts k = t at *
          replace hgt := hide hgt
          generalize hu : gvs us k = u at *
          subst hue
          clear hu h hs ih hR
          have hra' := hra
          clear hra
          obtain ⟨cs2, hcs2, hcz2⟩ := setCells_row (g := G) [.int .i64 t.no, .int .i64 t.kind, .int .u64 (t.least : Int), .int .u64 (t.most : Int), .slice ua t.sub.length uc] (k * 5) _ _ (heap_setCell_same wr G (k * 5) cc _ (.int .i64 (-77)) hcc)
          have hcz3 : cs2.size = (ts.length + 3) * 5 := by rw [hcz2]; simp [hcz]
          have hcs2' : ((((((wr.setCell ⟨G, k * 5, none⟩ (.int .i64 (-77))).setCell ⟨G, k * 5, none⟩ (.int .i64 t.no)).setCell ⟨G, k * 5 + 1, none⟩ (.int .i64 t.kind)).setCell ⟨G, k * 5 + 2, none⟩ (.int .u64 (t.least : Int))).setCell ⟨G, k * 5 + 3, none⟩ (.int .u64 (t.most : Int))).setCell ⟨G, k * 5 + 4, none⟩ (.slice ua t.sub.length uc)).heap[G]? = some (.cells cs2 55 (0, 0)) := hcs2
          have hB2 : Below G w ((((((wr.setCell ⟨G, k * 5, none⟩ (.int .i64 (-77))).setCell ⟨G, k * 5, none⟩ (.int .i64 t.no)).setCell ⟨G, k * 5 + 1, none⟩ (.int .i64 t.kind)).setCell ⟨G, k * 5 + 2, none⟩ (.int .u64 (t.least : Int))).setCell ⟨G, k * 5 + 3, none⟩ (.int .u64 (t.most : Int))).setCell ⟨G, k * 5 + 4, none⟩ (.slice ua t.sub.length uc)) := below_setCells (Nat.le_refl _) [.int .i64 t.no, .int .i64 t.kind, .int .u64 (t.least : Int), .int .u64 (t.most : Int), .slice ua t.sub.length uc] (k * 5) _ hB1
          have hsz2 : ((((((wr.setCell ⟨G, k * 5, none⟩ (.int .i64 (-77))).setCell ⟨G, k * 5, none⟩ (.int .i64 t.no)).setCell ⟨G, k * 5 + 1, none⟩ (.int .i64 t.kind)).setCell ⟨G, k * 5 + 2, none⟩ (.int .u64 (t.least : Int))).setCell ⟨G, k * 5 + 3, none⟩ (.int .u64 (t.most : Int))).setCell ⟨G, k * 5 + 4, none⟩ (.slice ua t.sub.length uc)).heap.size = wr.heap.size := (size_setCells (g := G) [.int .i64 t.no, .int .i64 t.kind, .int .u64 (t.least : Int), .int .u64 (t.most : Int), .slice ua t.sub.length uc] (k * 5) _).trans hsz1
          have hel2 : ∀ q, q ≠ G → ((((((wr.setCell ⟨G, k * 5, none⟩ (.int .i64 (-77))).setCell ⟨G, k * 5, none⟩ (.int .i64 t.no)).setCell ⟨G, k * 5 + 1, none⟩ (.int .i64 t.kind)).setCell ⟨G, k * 5 + 2, none⟩ (.int .u64 (t.least : Int))).setCell ⟨G, k * 5 + 3, none⟩ (.int .u64 (t.most : Int))).setCell ⟨G, k * 5 + 4, none⟩ (.slice ua t.sub.length uc)).heap[q]? = wr.heap[q]? := fun q hq => (heap_setCells_else hq [.int .i64 t.no, .int .i64 t.kind, .int .u64 (t.least : Int), .int .u64 (t.most : Int), .slice ua t.sub.length uc] (k * 5) _).trans (heap_setCell_other _ _ q _ hq)
          have hww2 : Below W.heap.size W ((((((wr.setCell ⟨G, k * 5, none⟩ (.int .i64 (-77))).setCell ⟨G, k * 5, none⟩ (.int .i64 t.no)).setCell ⟨G, k * 5 + 1, none⟩ (.int .i64 t.kind)).setCell ⟨G, k * 5 + 2, none⟩ (.int .u64 (t.least : Int))).setCell ⟨G, k * 5 + 3, none⟩ (.int .u64 (t.most : Int))).setCell ⟨G, k * 5 + 4, none⟩ (.slice ua t.sub.length uc)) := hw.trans (hB2.mono hGb)
          have hV0 : ((((((wr.setCell ⟨G, k * 5, none⟩ (.int .i64 (-77))).setCell ⟨G, k * 5, none⟩ (.int .i64 t.no)).setCell ⟨G, k * 5 + 1, none⟩ (.int .i64 t.kind)).setCell ⟨G, k * 5 + 2, none⟩ (.int .u64 (t.least : Int))).setCell ⟨G, k * 5 + 3, none⟩ (.int .u64 (t.most : Int))).setCell ⟨G, k * 5 + 4, none⟩ (.slice ua t.sub.length uc)).heap[G]? = ((wr.setCell ⟨G, k * 5, none⟩ (.int .i64 (-77))).setCells G (k * 5) (srow t (.slice ua t.sub.length uc))).heap[G]? := rfl
          have hra0 := rangeS_keep2 hra' hww hbl
          have b0 := hra0 0 _ rfl
          have b1 := hra0 1 _ rfl
          have b2 := hra0 2 _ rfl
          have b3 := hra0 3 _ rfl
          have b4 := hra0 4 _ rfl
          have f1 : wr.cell? ⟨G, k * 5 + 1, none⟩ = some (.int .i64 0) := by rw [cell_of_row _ _ _ _ _ _ hcc, hcv k 1 hlt (by omega)]; unfold hrow; rw [if_neg (by omega)]; rfl
          have f2 : wr.cell? ⟨G, k * 5 + 2, none⟩ = some (.int .u64 0) := by rw [cell_of_row _ _ _ _ _ _ hcc, hcv k 2 hlt (by omega)]; unfold hrow; rw [if_neg (by omega)]; rfl
          have f3 : wr.cell? ⟨G, k * 5 + 3, none⟩ = some (.int .u64 0) := by rw [cell_of_row _ _ _ _ _ _ hcc, hcv k 3 hlt (by omega)]; unfold hrow; rw [if_neg (by omega)]; rfl
          have f4 : wr.cell? ⟨G, k * 5 + 4, none⟩ = some (.slice none 0 0) := by rw [cell_of_row _ _ _ _ _ _ hcc, hcv k 4 hlt (by omega)]; unfold hrow; rw [if_neg (by omega)]; rfl
          have fz1 : wr.frozen? ⟨G, k * 5 + 1, none⟩ = false := by simp [World.frozen?, hcc]
          have fz2 : wr.frozen? ⟨G, k * 5 + 2, none⟩ = false := by simp [World.frozen?, hcc]
          have fz3 : wr.frozen? ⟨G, k * 5 + 3, none⟩ = false := by simp [World.frozen?, hcc]
          have fz4 : wr.frozen? ⟨G, k * 5 + 4, none⟩ = false := by simp [World.frozen?, hcc]
          rw [Nat.add_zero] at b0
          have A2 := hide hB2
          have A4 := hide hsz2
          have A5 := hide hel2
          have A6 := hide hww2
          have A7 := hide hV0
          have A8 := hide hcs2'
          have A9 := hide hR1
          have AN := hide hN
          have hbG' : ¬ G = b := fun e => hbG e.symm
          clear hB1 hB2 hsz1 hsz2 hel2 hww2 hV0 hcs2 hcs2' hR1 hN hcz2 hcc hB hww hl hc hn hra1 hra' hra0 hth hcv
          have cH := hih ((((((wr.setCell ⟨G, k * 5, none⟩ (.int .i64 (-77))).setCell ⟨G, k * 5, none⟩ (.int .i64 t.no)).setCell ⟨G, k * 5 + 1, none⟩ (.int .i64 t.kind)).setCell ⟨G, k * 5 + 2, none⟩ (.int .u64 (t.least : Int))).setCell ⟨G, k * 5 + 3, none⟩ (.int .u64 (t.most : Int))).setCell ⟨G, k * 5 + 4, none⟩ (.slice ua t.sub.length uc)) A6.out
          clear hih
          go_wp2_with (fail)
          generalize ((((((wr.setCell ⟨G, k * 5, none⟩ (.int .i64 (-77))).setCell ⟨G, k * 5, none⟩ (.int .i64 t.no)).setCell ⟨G, k * 5 + 1, none⟩ (.int .i64 t.kind)).setCell ⟨G, k * 5 + 2, none⟩ (.int .u64 (t.least : Int))).setCell ⟨G, k * 5 + 3, none⟩ (.int .u64 (t.most : Int))).setCell ⟨G, k * 5 + 4, none⟩ (.slice ua t.sub.length uc)) = w2 at *
          refine cH.mono ?_
          rintro e_ w3 ⟨v', rfl, hb3, hv'⟩
          clear cH b0 b1 b2 b3 b4 f1 f2 f3 f4 fz1 fz2 fz3 fz4 fz fc
          obtain ⟨rfl, hG'⟩ := hv'.form
          have hs2 := A4.out
          have hG2 : G < w2.heap.size := by omega
          have r3 : w3.heap[G]? = some (.cells cs2 55 (0, 0)) := keep hb3 A8.out
          have hR2 := A9.out w3 (.slice ua t.sub.length uc) (.slice (some ⟨w2.heap.size, 0, none⟩) t.sub.length (t.sub.length + 3)) ((hb3.block G hG2).trans A7.out)
          have hB3 : Below G w (w3.setCell ⟨G, k * 5 + 4, none⟩ (.slice (some ⟨w2.heap.size, 0, none⟩) t.sub.length (t.sub.length + 3))) := (A2.out.trans (hb3.mono (by omega))).setCell (Nat.le_refl _) _
          have hs3 := hb3.size
          have hs4 : (w3.setCell ⟨G, k * 5 + 4, none⟩ (.slice (some ⟨w2.heap.size, 0, none⟩) t.sub.length (t.sub.length + 3))).heap.size = w3.heap.size := by simp
          have hN2 : ∀ i, i < min (k + 1) ts.length → (G < (if i ≤ k then p i else w3.heap.size) ∧ (if i ≤ k then p i else w3.heap.size) ≤ (if i + 1 ≤ k then p (i + 1) else w3.heap.size) ∧ (if i + 1 ≤ k then p (i + 1) else w3.heap.size) ≤ (w3.setCell ⟨G, k * 5 + 4, none⟩ (.slice (some ⟨w2.heap.size, 0, none⟩) t.sub.length (t.sub.length + 3))).heap.size) ∧ HSx (w3.setCell ⟨G, k * 5 + 4, none⟩ (.slice (some ⟨w2.heap.size, 0, none⟩) t.sub.length (t.sub.length + 3))) (if i ≤ k then p i else w3.heap.size) (if i + 1 ≤ k then p (i + 1) else w3.heap.size) (gvs (vs ++ [.slice (some ⟨w2.heap.size, 0, none⟩) t.sub.length (t.sub.length + 3)]) i) (gs ts i).sub := fun i hi => by
            rcases Nat.lt_or_ge i k with h6 | h6
            · rw [gvs_low _ _ _ (by omega), if_pos (by omega), if_pos (by omega)]
              obtain ⟨h9, h10⟩ := AN.out i h6
              exact ⟨by omega, h10.keep (by omega) fun q h7 h8 => (heap_setCell_other _ _ q _ (by show q ≠ G; omega)).trans ((hb3.block q (by omega)).trans (A5.out q (by omega)))⟩
            · have h7 : i = k := by omega
              subst h7
              rw [gvs_top _ _ _ hvl, hgt.out, if_pos (Nat.le_refl _), if_neg (by omega), hpk, ← hs2]
              exact ⟨by omega, hv'.keep (by omega) fun q h7 h8 => heap_setCell_other _ _ q _ (by show q ≠ G; omega)⟩
          have fz5 : w3.frozen? ⟨G, k * 5 + 4, none⟩ = false := by simp [World.frozen?, r3]
          obtain ⟨y5, fc5⟩ : ∃ y, w3.cell? ⟨G, k * 5 + 4, none⟩ = some y := by
            rw [cell_of_row _ _ _ _ _ _ r3]
            exact ⟨_, Array.getElem?_eq_getElem (by omega)⟩
          have A10 := hide hR2
          have A11 := hide hB3
          have A12 := hide hN2
          have A13 := hide hs4
          clear hs2 hR2 hB3 hN2 hs4 hv' hb3 r3 A2 A4 A5 A6 A7 A8 A9 AN
          go_wp2_with (fail)
          refine ⟨⟨k + 1, vs ++ [.slice (some ⟨w2.heap.size, 0, none⟩) t.sub.length (t.sub.length + 3)], fun i => if i ≤ k then p i else w3.heap.size, by omega, by go_num, A11.out, by rw [A13.out]; omega, by simp; omega, A10.out, ?_, ?_, A12.out⟩, ?_⟩
          · rw [Nat.min_eq_left (by omega)]; show G < if k + 1 ≤ k then p (k + 1) else w3.heap.size; rw [if_neg (by omega)]; omega
          · rw [Nat.min_eq_left (by omega)]; show (if k + 1 ≤ k then p (k + 1) else w3.heap.size) = _; rw [if_neg (by omega), A13.out]
          simp [intOf]; omega
        · have hd2 : decide ((k : Int) < (ts.length : Int)) = false := by simp; omega
          have hR2 := hR.mark (by omega) hlt
          have hB2 : Below G w (wr.setCell ⟨G, k * 5, none⟩ (.int .i64 (-77))) := hB.setCell (Nat.le_refl _) _
          have hsz2 : (wr.setCell ⟨G, k * 5, none⟩ (.int .i64 (-77))).heap.size = wr.heap.size := by simp
          have hN2 : ∀ i, i < min (k + 1) ts.length → (G < p i ∧ p i ≤ p (i + 1) ∧ p (i + 1) ≤ (wr.setCell ⟨G, k * 5, none⟩ (.int .i64 (-77))).heap.size) ∧ HSx (wr.setCell ⟨G, k * 5, none⟩ (.int .i64 (-77))) (p i) (p (i + 1)) (gvs vs i) (gs ts i).sub := fun i hi => by
            obtain ⟨h5, h6⟩ := hN i (by omega)
            exact ⟨by omega, h6.keep (by omega) fun q h7 _ => heap_setCell_other _ _ q _ (by show q ≠ G; omega)⟩
          rw [show min k ts.length = min (k + 1) ts.length by omega] at hpG hpk
          rw [← hsz2] at hpk
          clear h hs ih hR hN hcc hcz hcv
          go_wp2_with (fail)
          generalize (wr.setCell ⟨G, k * 5, none⟩ (.int .i64 (-77))) = w1 at *
          refine ⟨⟨k + 1, vs, p, by omega, by go_num, hB2, by omega, by rw [hvl]; omega, hR2, hpG, hpk, hN2⟩, ?_⟩
          simp [intOf]; omega
      · have hd : decide ((k : Int) < (ts.length : Int) + 3) = false := by simp; omega
        have hke : k = ts.length + 3 := by omega
        subst hke
        rw [Nat.min_eq_right (by omega)] at hvl hN hpG hpk
        have hfin : HSx wr G wr.heap.size (.slice (some ⟨G, 0, none⟩) ts.length (ts.length + 3)) ts := by
          refine .mk G wr.heap.size ts vs p h4 hGl (Nat.le_refl _) hGl (fun i hi => (hN i hi).1) (hR.elim fun cs q => ⟨cs, _, q.1, q.2.1⟩) (fun i hi => ⟨?_, (h i hi).elim fun _ q => q.elim fun _ q => q.2.2.2⟩) (fun i h1 h2 => ?_) (fun i hi => (hN i hi).2)
          · have := hR.range (i := i) (by omega) (hrow_len ..)
            rwa [show hrow ts vs (ts.length + 3) i = srow (gs ts i) (gvs vs i) by unfold hrow; rw [if_pos (by omega), if_pos hi]] at this
          · have := hR.range (i := i) h2 (hrow_len ..)
            rwa [show hrow ts vs (ts.length + 3) i = hmk by unfold hrow; rw [if_pos (by omega), if_neg (by omega)]] at this
        clear h hs ih hR hN
        go_wp2_with (fail)
        go_ret
        exact ⟨_, rfl, by rw [hG.out]; exact hB, by rw [hG.out]; exact hfin⟩
end Go.Proofs.YtdfpmgjholdknaaDoor
