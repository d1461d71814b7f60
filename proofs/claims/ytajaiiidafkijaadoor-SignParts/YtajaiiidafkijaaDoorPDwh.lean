import Derived.Test.YtajaiiidafkijaaDoorProg
import Derived.WalkKit
import Derived.WalkSpells
import Derived.WalkLawsBesides
import Derived.Lib.QuietBelow
import Derived.BigQuiet
import Derived.Test.YtajaiiidafkijaaDoorPKa
import Derived.Test.YtajaiiidafkijaaDoorPDwe
import Derived.Test.YtajaiiidafkijaaDoorPDsc
import Derived.Test.YtajaiiidafkijaaDoorPDse
namespace Go.Proofs.YtajaiiidafkijaaDoor
set_option maxRecDepth 100000
open Go.RowKit Go.Sort
attribute [local go_sem] setCell_drewN alloc_drewN
theorem r4_inj {a b c d a' b' c' d' : Array Value} (h : r4 a b c d = r4 a' b' c' d') (ha : a.size = 5) (hb : b.size = 5) (hc : c.size = 5) (ha' : a'.size = 5) (hb' : b'.size = 5) (hc' : c'.size = 5) (hd : d.size = 5) (hd' : d'.size = 5) : a = a' ∧ b = b' ∧ c = c' ∧ d = d' := by
 have e0 : (r4 a b c d).extract 0 (0 + 5) = (r4 a' b' c' d').extract 0 (0 + 5) := by rw [h]
 have e1 : (r4 a b c d).extract 5 (5 + 5) = (r4 a' b' c' d').extract 5 (5 + 5) := by rw [h]
 have e2 : (r4 a b c d).extract 10 (10 + 5) = (r4 a' b' c' d').extract 10 (10 + 5) := by rw [h]
 have e3 : (r4 a b c d).extract 15 (15 + 5) = (r4 a' b' c' d').extract 15 (15 + 5) := by rw [h]
 have q0 := p_0 (a := a) (b := b) (c := c) (d := d); have q0' := p_0 (a := a') (b := b') (c := c') (d := d')
 have q1 := p5_1 (a := a) (b := b) (c := c) (d := d) ha; have q1' := p5_1 (a := a') (b := b') (c := c') (d := d') ha'
 have q2 := p5_2 (a := a) (b := b) (c := c) (d := d) ha hb; have q2' := p5_2 (a := a') (b := b') (c := c') (d := d') ha' hb'
 have q3 := p5_3 (a := a) (b := b) (c := c) (d := d) ha hb hc; have q3' := p5_3 (a := a') (b := b') (c := c') (d := d') ha' hb' hc'
 rw [ha] at q0; rw [ha'] at q0'; rw [hb] at q1; rw [hb'] at q1'; rw [hc] at q2; rw [hc'] at q2'; rw [hd] at q3; rw [hd'] at q3'
 exact ⟨by rw [← q0, ← q0', e0], by rw [← q1, ← q1', e1], by rw [← q2, ← q2', e2], by rw [← q3, ← q3', e3]⟩
theorem spo_inj {r : Array Value} {P Q : E1} (h : SpO r P) (g : SpO r Q) : P = Q := by
 obtain ⟨xr, yr, zr, tr, X, Y, Z, T, rfl, hx, hy, hz, ht, hP⟩ := h
 obtain ⟨ur, vr, wr, sr, X2, Y2, Z2, T2, he, hu, hv, hww, hs, hQ⟩ := g
 obtain ⟨rfl, rfl, rfl, rfl⟩ := r4_inj he hx.size hy.size hz.size hu.size hv.size hww.size ht.size hs.size
 have a := num_inj hx hu
 have b := num_inj hy hv
 have c := num_inj hz hww
 refine (sp_eq hP hQ).1 ⟨?_, ?_⟩
 ·rw [Int.mul_emod, a, ← c, ← Int.mul_emod]
 ·rw [Int.mul_emod, b, ← c, ← Int.mul_emod]
theorem ado_inj {r : Array Value} {P Q : E1} (h : AdO r P) (g : AdO r Q) : P = Q := by
 obtain ⟨xr, yr, zr, tr, X, Y, Z, T, rfl, hx, hy, hz, ht, hP⟩ := h
 obtain ⟨ur, vr, wr, sr, X2, Y2, Z2, T2, he, hu, hv, hww, hs, hQ⟩ := g
 obtain ⟨rfl, rfl, rfl, rfl⟩ := r4_inj he hx.size hy.size hz.size hu.size hv.size hww.size ht.size hs.size
 have a := zp_sub.2 (num_inj hx hu)
 have b := zp_sub.2 (num_inj hy hv)
 have c := zp_sub.2 (num_inj hz hww)
 have hX : Zp (X - X2) := zp_cancel (a := 243332) (zp_lin2 (-1) 1 a b (by grind)) n243332
 have hY : Zp (Y - Y2) := zp_cancel (a := 243332) (zp_lin2 1 1 a b (by grind)) n243332
 have hZ : Zp (Z - Z2) := zp_cancel (a := 243332) (zp_lin1 1 c (by grind)) n243332
 refine (sp_eq hP hQ).1 ⟨?_, ?_⟩
 ·rw [← zp_sub]; exact zp_lin2 Z2 (-X2) hX hZ (by grind)
 ·rw [← zp_sub]; exact zp_lin2 Z2 (-Y2) hY hZ (by grind)
noncomputable def nTw (r : Array Value) : Array Value := open Classical in if h : ∃ P, SpO r P then Classical.choose (a_twice (Classical.choose_spec h)) else r
theorem nTw_spec {r : Array Value} {P : E1} (h : SpO r P) : SpO (nTw r) (pl P P) ∧ Gives4 111 #[.agg r] (.agg (nTw r)) := by
 have hx : ∃ P, SpO r P := ⟨P, h⟩
 have e : nTw r = Classical.choose (a_twice (Classical.choose_spec hx)) := by unfold nTw; exact dif_pos hx
 have sp := Classical.choose_spec (a_twice (Classical.choose_spec hx))
 rw [← e, spo_inj (Classical.choose_spec hx) h] at sp
 exact sp
noncomputable def nPl (r s : Array Value) : Array Value := open Classical in if h : (∃ P, SpO r P) ∧ ∃ Q, AdO s Q then Classical.choose (a_plus (Classical.choose_spec h.1) (Classical.choose_spec h.2)) else r
theorem nPl_spec {r s : Array Value} {P Q : E1} (h : SpO r P) (g : AdO s Q) : SpO (nPl r s) (pl P Q) ∧ Gives4 76 #[.agg r, .agg s] (.agg (nPl r s)) := by
 have hx : (∃ P, SpO r P) ∧ ∃ Q, AdO s Q := ⟨⟨P, h⟩, ⟨Q, g⟩⟩
 have e : nPl r s = Classical.choose (a_plus (Classical.choose_spec hx.1) (Classical.choose_spec hx.2)) := by unfold nPl; exact dif_pos hx
 have sp := Classical.choose_spec (a_plus (Classical.choose_spec hx.1) (Classical.choose_spec hx.2))
 rw [← e, spo_inj (Classical.choose_spec hx.1) h, ado_inj (Classical.choose_spec hx.2) g] at sp
 exact sp
noncomputable def nOr (r s : Array Value) (on : Bool) : Array Value := open Classical in if h : (∃ P, SpO r P) ∧ ∃ Q, SpO s Q then Classical.choose (a_or (Classical.choose_spec h.1) (Classical.choose_spec h.2) on) else r
theorem nOr_spec {r s : Array Value} {P Q : E1} (h : SpO r P) (g : SpO s Q) (on : Bool) : SpO (nOr r s on) (if on = true then Q else P) ∧ Gives 112 #[.agg r, .agg s, .bool on] (.agg (nOr r s on)) := by
 have hx : (∃ P, SpO r P) ∧ ∃ Q, SpO s Q := ⟨⟨P, h⟩, ⟨Q, g⟩⟩
 have e : nOr r s on = Classical.choose (a_or (Classical.choose_spec hx.1) (Classical.choose_spec hx.2) on) := by unfold nOr; exact dif_pos hx
 have sp := Classical.choose_spec (a_or (Classical.choose_spec hx.1) (Classical.choose_spec hx.2) on)
 rw [← e, spo_inj (Classical.choose_spec hx.1) h, spo_inj (Classical.choose_spec hx.2) g] at sp
 exact sp
noncomputable def bitsS (a s : Array Value) (z : Nat) : Nat → Array Value
 | 0 => s
 | j + 1 => nOr (nTw (bitsS a s z j)) (nPl (nTw (bitsS a s z j)) a) (decide (z / 2 ^ (7 - j) % 2 = 1))
theorem bitsS_spec {a s : Array Value} {P : E1} {e z : Nat} (h : AdO a P) (g : SpO s (ml e P)) (hz : z < 256) : ∀ j, j ≤ 8 → SpO (bitsS a s z j) (ml (e * 2 ^ j + z / 2 ^ (8 - j)) P)
 | 0, _ => by
  rw [show z / 2 ^ (8 - 0) = 0 by omega, Nat.pow_zero, Nat.mul_one, Nat.add_zero]; exact g
 | j + 1, hj => by
  have ih := bitsS_spec h g hz j (by omega)
  have sq := (nTw_spec ih).1
  have m := (nPl_spec sq h).1
  have o := (nOr_spec sq m (decide (z / 2 ^ (7 - j) % 2 = 1))).1
  have hd : z / 2 ^ (8 - j) = z / 2 ^ (7 - j) / 2 := by
   rw [Nat.div_div_eq_div_mul, ← Nat.pow_succ, show (7 - j).succ = 8 - j by omega]
  have h2 : 2 ^ (j + 1) = 2 * 2 ^ j := by rw [Nat.pow_succ, Nat.mul_comm]
  have h3 : e * 2 ^ (j + 1) = e * 2 ^ j + e * 2 ^ j := by rw [h2, Nat.mul_left_comm]; omega
  unfold bitsS
  rw [show 8 - (j + 1) = 7 - j by omega, h3]
  rw [ml_two, ml_next] at o
  by_cases hb : z / 2 ^ (7 - j) % 2 = 1
  ·rw [decide_eq_true hb, if_pos rfl] at o
   rw [decide_eq_true hb, show e * 2 ^ j + e * 2 ^ j + z / 2 ^ (7 - j) = 2 * (e * 2 ^ j + z / 2 ^ (8 - j)) + 1 by omega]
   exact o
  ·rw [decide_eq_false hb, if_neg (by decide)] at o
   rw [decide_eq_false hb, show e * 2 ^ j + e * 2 ^ j + z / 2 ^ (7 - j) = 2 * (e * 2 ^ j + z / 2 ^ (8 - j)) by omega]
   exact o
noncomputable def bytesS (a o : Array Value) (bs : List Int) : Nat → Array Value
 | 0 => o
 | k + 1 => bitsS a (bytesS a o bs k) (bat bs k).toNat 8
theorem bytesS_spec {a o : Array Value} {P : E1} {bs : List Int} (h : AdO a P) (g : SpO o ze) (hz : ∀ z ∈ bs, 0 ≤ z ∧ z < 256) : ∀ k, k ≤ bs.length → SpO (bytesS a o bs k) (ml (topv bs k) P)
 | 0, _ => by rw [topv_zero]; exact g
 | k + 1, hk => by
  have b := bat_bd hz (k := k) (by omega)
  have := bitsS_spec h (bytesS_spec h g hz k (by omega)) (z := (bat bs k).toNat) (by omega) 8 (by omega)
  rw [Nat.sub_self, Nat.pow_zero, Nat.div_one] at this
  rw [topv_succ (by omega)]
  exact this
set_option maxHeartbeats 8000000 in
set_option maxRecDepth 100000 in
theorem times_walk {r a o : Array Value} {P : E1} {bs : List Int} (h : SpO r P) (ha : AdO a P) (ho : SpO o ze) (cA : Gives4 77 #[.agg r] (.agg a)) (cO : Gives 68 #[.agg q20] (.agg o)) (w : World) (ev : Value) (hF : Four w) (hB : Bys w ev bs) :
 Calls Tryd.prog 69 #[.agg r, ev] w fun e w' => e = .returned (.agg (bytesS a o bs bs.length)) ∧ Below w.heap.size w w' := by
 obtain ⟨ao, cap, rfl, hl, hc, hz⟩ := hB
 have hP := bytesS_spec ha ho hz
 generalize hlen : bs.length = len at *
 have rp0 : ((w.alloc (.cells r 101)).alloc (.cells q20 101)).heap[w.heap.size]? = some (.cells r 101 (0, 0)) := hp2_0 w _ _
 have rp1 : ((w.alloc (.cells r 101)).alloc (.cells q20 101)).heap[w.heap.size + 1]? = some (.cells q20 101 (0, 0)) := hp2_1 w _ _
 have hw : Below w.heap.size w ((w.alloc (.cells r 101)).alloc (.cells q20 101)) := (((Below.refl _ _).alloc (Nat.le_refl _) _).alloc (by simp) _)
 have hz0 := hF.1
 have f4 : Four ((w.alloc (.cells r 101)).alloc (.cells q20 101)) := ((hF.alloc _).alloc _)
 go_enter Tryd.func69, Tryd.ntmps69
 iterate 9 go_step
 generalize ((w.alloc (.cells r 101)).alloc (.cells q20 101)) = w0 at *
 go_wp2_with (first | (refine wpList_load_want rfl 101 _ rfl (w.heap.size) rfl 101 r (0, 0) _ rp0 Tryd.underlying101 rfl h.info ?_) | (refine wpList_load_want rfl 101 _ rfl (w.heap.size + 1) rfl 101 q20 (0, 0) _ rp1 Tryd.underlying101 rfl (by kernel_rfl) ?_) | fail)
 refine (cA.at f4).mono ?_
 rintro e w2 ⟨rfl, hb⟩
 replace rp0 := keep hb rp0
 replace rp1 := keep hb rp1
 replace hw := Below.after hw hb
 replace f4 := f4.below hb
 clear hb
 go_wp2_with (first | (refine wpList_store_row rfl 113 _ _ rfl (w2.heap.size) a rfl rfl 113 q20 (hp1_0 w2 _) ha.info (ha.size).symm ha.one ?_; rw [setRow_alloc_new _ _ _ _ _ _ (by simp)]; refine wpList_stay ?_) | fail)
 unfold WpStay
 try simp only [Act.put]
 have rl5 : (w2.alloc (.cells a 113)).heap[w2.heap.size]? = some (.cells a 113 (0, 0)) := hp1_0 w2 _
 have hb : Below w2.heap.size w2 (w2.alloc (.cells a 113)) := ((Below.refl _ _).alloc (Nat.le_refl _) _)
 generalize (w2.alloc (.cells a 113)) = wa at *
 have yg5_0 := lt_of_row rp0
 have yg5_1 := lt_of_row rp1
 have yg5 := hw.size
 have zg5 := f4.1
 replace rp0 := keep hb rp0
 replace rp1 := keep hb rp1
 replace hw := Below.after hw hb
 replace f4 := f4.below hb
 clear hb
 generalize w2.heap.size = g5 at *
 clear w2
 go_wp2_with (first | (refine wpList_build_as rfl 45 _ rfl [] rfl q20 (by kernel_rfl) ?_) | fail)
 refine (cO.at _).mono ?_
 rintro e wo0 ⟨rfl, hb⟩
 replace rp0 := keep hb rp0
 replace rp1 := keep hb rp1
 replace rl5 := keep hb rl5
 replace hw := Below.after hw hb
 replace f4 := f4.below hb
 clear hb
 go_wp2_with (first | (refine wpList_store_row rfl 101 _ _ rfl (wo0.heap.size) o rfl rfl 101 q20 (hp1_0 wo0 _) ho.info (ho.size).symm ho.one ?_; rw [setRow_alloc_new _ _ _ _ _ _ (by simp)]; refine wpList_stay ?_) | fail)
 unfold WpStay
 try simp only [Act.put]
 have rl6 : (wo0.alloc (.cells o 101)).heap[wo0.heap.size]? = some (.cells o 101 (0, 0)) := hp1_0 wo0 _
 have hb : Below wo0.heap.size wo0 (wo0.alloc (.cells o 101)) := ((Below.refl _ _).alloc (Nat.le_refl _) _)
 generalize (wo0.alloc (.cells o 101)) = wb at *
 have yg6_0 := lt_of_row rp0
 have yg6_1 := lt_of_row rp1
 have yg6_2 := lt_of_row rl5
 have yg6 := hw.size
 have zg6 := f4.1
 replace rp0 := keep hb rp0
 replace rp1 := keep hb rp1
 replace rl5 := keep hb rl5
 replace hw := Below.after hw hb
 replace f4 := f4.below hb
 clear hb
 generalize wo0.heap.size = g6 at *
 clear wo0
 go_wp2_with (fail)
 go_loopw [16] (fun i wr => ∃ k : Nat, k ≤ len ∧ i = .int .i64 k ∧ wr.heap[w.heap.size]? = some (.cells r 101 (0, 0)) ∧ wr.heap[w.heap.size + 1]? = some (.cells q20 101 (0, 0)) ∧ wr.heap[g5]? = some (.cells a 113 (0, 0)) ∧ wr.heap[g6]? = some (.cells (bytesS a o bs k) 101 (0, 0)) ∧ Below w.heap.size w wr ∧ Four wr) (fun i _ => len - (intOf i).toNat)
 case atStart => exact ⟨0, by omega, rfl, rp0, rp1, rl5, rl6, hw, f4⟩
 case round =>
  clear rp0 rp1 rl5 rl6 hw f4
  obtain ⟨k, hk, rfl, rp0, rp1, rl5, rl6, hw, f4⟩ := hrel
  have hn := hP k hk
  by_cases hlt : k < len
  ·have hd : decide ((k : Int) < (len : Int)) = true := by simp; omega
   obtain ⟨b, off, rfl, hb1, hb2⟩ := hc (len - 1 - k) (by omega)
   replace hb2 := (hw.cell hb1).trans hb2
   have hbat := bat_bd hz (k := k) (by omega)
   rw [show bs.getD (len - 1 - k) 0 = bat bs k by unfold bat; rw [hlen]] at hb2
   generalize hzz : bat bs k = z at *
   go_wp2
   go_loopw [27] (fun i wv => ∃ j : Nat, j ≤ 8 ∧ i = .int .i64 j ∧ wv.heap[w.heap.size]? = some (.cells r 101 (0, 0)) ∧ wv.heap[w.heap.size + 1]? = some (.cells q20 101 (0, 0)) ∧ wv.heap[g5]? = some (.cells a 113 (0, 0)) ∧ wv.heap[g6]? = some (.cells (bitsS a (bytesS a o bs k) z.toNat j) 101 (0, 0)) ∧ Below w.heap.size w wv ∧ Four wv) (fun i _ => 8 - (intOf i).toNat)
   case atStart => exact ⟨0, by omega, rfl, rp0, rp1, rl5, rl6, hw, f4⟩
   case round =>
    clear rp0 rp1 rl5 rl6 hw f4 hb2
    obtain ⟨j, hj, rfl, rp0, rp1, rl5, rl6, hw, f4⟩ := hrel
    have hbn := bitsS_spec ha hn (z := z.toNat) (by omega) j hj
    by_cases hlj : j < 8
    ·have hdj : decide ((j : Int) < 8) = true := by simp; omega
     obtain ⟨hs, cs⟩ := nTw_spec hbn
     obtain ⟨hm, cm⟩ := nPl_spec hs ha
     have hstep : bitsS a (bytesS a o bs k) z.toNat (j + 1) = nOr (nTw (bitsS a (bytesS a o bs k) z.toNat j)) (nPl (nTw (bitsS a (bytesS a o bs k) z.toNat j)) a) (decide (z.toNat / 2 ^ (7 - j) % 2 = 1)) := rfl
     have hs3 := bitsS_spec ha hn (z := z.toNat) (by omega) (j + 1) (by omega)
     rw [hstep] at hs3
     generalize bitsS a (bytesS a o bs k) z.toNat j = s0 at *
     have csw := fun on => (nOr_spec hs hm on).2
     generalize nPl (nTw s0) a = s2 at *
     generalize nTw s0 = s1 at *
     go_wp2_with (first | (refine wpList_load_want rfl 101 _ rfl (g6) rfl 101 s0 (0, 0) _ rl6 Tryd.underlying101 rfl hbn.info ?_) | fail)
     refine (cs.at f4).mono ?_
     rintro e w1 ⟨rfl, hb⟩
     replace rp0 := keep hb rp0
     replace rp1 := keep hb rp1
     replace rl5 := keep hb rl5
     replace rl6 := keep hb rl6
     replace hw := Below.after hw hb
     replace f4 := f4.below hb
     clear hb
     go_wp2_with (first | (refine wpList_store_row rfl 101 _ _ rfl (g6) s1 rfl rfl 101 _ rl6 hs.info (hbn.size.trans hs.size.symm) hs.one ?_) | fail)
     replace rp0 := (setRow_other w1 g6 (w.heap.size) s1 (by omega)).trans rp0
     replace rp1 := (setRow_other w1 g6 (w.heap.size + 1) s1 (by omega)).trans rp1
     replace rl5 := (setRow_other w1 g6 (g5) s1 (by omega)).trans rl5
     replace rl6 := setRow_heap w1 g6 _ s1 _ _ rl6
     replace hw := below_setRow hw (show w.heap.size ≤ g6 by omega) s1
     replace f4 := f4.setRow (show 3 < g6 by omega) s1
     generalize w1.setRow g6 s1 = w2 at *
     have Hrl5 := keepr rl5
     have Hrl6 := keepr rl6
     refine wp_region_tail (C := fun w' => ∃ p : Regrown, w' = grow (redrawn w2 p.d) p.os) 11 _ rfl rfl rfl (by kernel_rfl) (by kernel_rfl) (by kernel_rfl) (by kernel_rfl) ⟨⟨w2.drawn + 1, #[]⟩, by rw [grow_empty]; rfl⟩ ?_
     dsimp only [List.set, idle]
     refine wpQuiet_load_row rfl 101 _ rfl (g6) rfl 101 s1 (0, 0) _ Hrl6.out Tryd.underlying101 rfl hs.info ?_
     simp only [Act.put, ZPd, ZPe, ZPf]
     refine wpQuiet_load_row rfl 101 _ rfl (g6) rfl 101 s1 (0, 0) _ Hrl6.out Tryd.underlying101 rfl hs.info ?_
     simp only [Act.put, ZPd, ZPe, ZPf]
     refine wpQuiet_load_row rfl 113 _ rfl (g5) rfl 113 a (0, 0) _ Hrl5.out Tryd.underlying113 rfl ha.info ?_
     simp only [Act.put, ZPd, ZPe, ZPf]
     go_big_quiet_step (exact cm.re f4)
     go_big_quiet_step (fail)
     go_big_quiet_step (fail)
     go_big_quiet_step (fail)
     go_big_quiet_step (fail)
     go_big_quiet_step (fail)
     go_big_quiet_step (fail)
     go_big_quiet_step (exact (csw _).re)
     refine wpQuiet_idle rfl rfl rfl ?_
     rintro _ ⟨p, rfl⟩
     have hb := below_regrown w2 p.d p.os
     generalize grow (redrawn w2 p.d) p.os = w3 at *
     replace rp0 := keep hb rp0
     replace rp1 := keep hb rp1
     replace rl5 := keep hb rl5
     replace rl6 := keep hb rl6
     replace hw := Below.after hw hb
     replace f4 := f4.below hb
     clear hb Hrl5 Hrl6
     simp only [bit_at z (7 - j) hbat.1 hbat.2]
     rw [← hstep] at hs3 ⊢
     generalize hs3e : bitsS a (bytesS a o bs k) z.toNat (j + 1) = s3 at *
     clear hstep
     go_wp2_with (first | (refine wpList_store_row rfl 101 _ _ rfl (g6) s3 rfl rfl 101 _ rl6 hs3.info (hs.size.trans hs3.size.symm) hs3.one ?_) | fail)
     go_roundw
     case rel => exact ⟨j + 1, by omega, by go_num, (setRow_other w3 g6 (w.heap.size) s3 (by omega)).trans rp0, (setRow_other w3 g6 (w.heap.size + 1) s3 (by omega)).trans rp1, (setRow_other w3 g6 g5 s3 (by omega)).trans rl5, by rw [hs3e]; exact setRow_heap w3 g6 _ s3 _ _ rl6, below_setRow hw (show w.heap.size ≤ g6 by omega) s3, f4.setRow (show 3 < g6 by omega) s3⟩
     case measure => simp [intOf]; omega
    ·obtain rfl : j = 8 := by omega
     have hdj : decide ((8 : Int) < 8) = false := by decide
     go_wp2
     go_roundw
     case rel => exact ⟨k + 1, by omega, by go_num, rp0, rp1, rl5, by rw [show bytesS a o bs (k + 1) = bitsS a (bytesS a o bs k) z.toNat 8 by rw [← hzz]; rfl]; exact rl6, hw, f4⟩
     case measure => simp [intOf]; omega
  ·obtain rfl : k = len := by omega
   have hd : decide ((k : Int) < (k : Int)) = false := by simp
   go_wp2_with (first | (refine wpList_load_want rfl 101 _ rfl (g6) rfl 101 (bytesS a o bs k) (0, 0) _ rl6 Tryd.underlying101 rfl hn.info ?_) | (refine wpList_store_row rfl 101 _ _ rfl (w.heap.size + 1) (bytesS a o bs k) rfl rfl 101 _ rp1 hn.info ((show _ = 20 from rfl).trans hn.size.symm) hn.one ?_) | fail)
   exact bodyPost_ret (v := .agg (bytesS a o bs k)) (results_cell_row Tryd.results69 _ _ (w.heap.size + 1) _ (bytesS a o bs k) _ _ rfl (setRow_heap _ _ _ _ _ _ rp1) Tryd.underlying101 rfl hn.info) rfl ⟨rfl, below_setRow hw (by omega) _⟩
theorem a_times19 {r : Array Value} {P : E1} (h : SpO r P) (bs : List Int) (hz : ∀ z ∈ bs, 0 ≤ z ∧ z < 256) : ∃ s, SpO s (ml (bval bs) P) ∧ ∀ (w : World) (ev : Value), Four w → Bys w ev bs → Calls Tryd.prog 69 #[.agg r, ev] w fun e w' => e = .returned (.agg s) ∧ Below w.heap.size w w' := by
 obtain ⟨a, ha, cA⟩ := a_ready h
 obtain ⟨o, ho, cO⟩ := a_spot pt_zero
 refine ⟨bytesS a o bs bs.length, ?_, fun w ev hF hB => times_walk h ha ho cA cO w ev hF hB⟩
 rw [← topv_all]
 exact bytesS_spec ha ho hz _ (Nat.le_refl _)
theorem re_bys4 {f : FuncId} {a v ev : Value} {bs : List Int} {w : World} {d : Nat} {os : Array Obj} (hF : Four w) (hB : Bys w ev bs) (c : ∀ (w : World) (ev' : Value), Four w → Bys w ev' bs → Calls Tryd.prog f #[a, ev'] w fun e w' => e = .returned v ∧ Below w.heap.size w w') : Calls Tryd.prog f #[a, ev] (grow (redrawn w d) os) fun e w'' => e = .returned v ∧ ∃ p : Regrown, w'' = grow (redrawn w p.d) p.os :=
 Calls.regrown_of (c _ ev (hF.below (below_regrown w d os)) (hB.keep (below_regrown w d os)))
set_option maxRecDepth 100000 in
set_option maxHeartbeats 8000000 in
theorem a_Scale {r : Array Value} {P : E1} (h : PtO r P) (bs : List Int) (hz : ∀ z ∈ bs, 0 ≤ z ∧ z < 256) : ∃ s, PtO s (ml (bval bs) P) ∧ ∀ (w : World) (ev : Value), Four w → Bys w ev bs → Calls Tryd.prog 20 #[.agg r, ev] w fun e w' => e = .returned (.agg s) ∧ Below w.heap.size w w' := by
 obtain ⟨xs, hxs, cs⟩ := a_spot h
 obtain ⟨xt, hxt, ct⟩ := a_times19 hxs bs hz
 obtain ⟨xp, hxp, cp⟩ := a_point hxt
 refine ⟨xp, hxp, fun w ev hF hB => ?_⟩
 have rp0 : ((w.alloc (.cells r 45)).alloc (.cells q20 45)).heap[w.heap.size]? = some (.cells r 45 (0, 0)) := hp2_0 w _ _
 have rp1 : ((w.alloc (.cells r 45)).alloc (.cells q20 45)).heap[w.heap.size + 1]? = some (.cells q20 45 (0, 0)) := hp2_1 w _ _
 have hw : Below w.heap.size w ((w.alloc (.cells r 45)).alloc (.cells q20 45)) := (((Below.refl _ _).alloc (Nat.le_refl _) _).alloc (by simp) _)
 have hz0 := hF.1
 have f4 : Four ((w.alloc (.cells r 45)).alloc (.cells q20 45)) := ((hF.alloc _).alloc _)
 go_enter Tryd.func20, Tryd.ntmps20
 iterate 9 go_step
 generalize ((w.alloc (.cells r 45)).alloc (.cells q20 45)) = w0 at *
 go_wp2_with (first | (refine wpList_load_want rfl 45 _ rfl (w.heap.size) rfl 45 r (0, 0) _ rp0 Tryd.underlying45 rfl h.info ?_) | (refine wpList_load_want rfl 45 _ rfl (w.heap.size + 1) rfl 45 q20 (0, 0) _ rp1 Tryd.underlying45 rfl (by kernel_rfl) ?_) | fail)
 refine (cs.at _).mono ?_
 rintro e w1 ⟨rfl, hb⟩
 replace hB := hB.keep (Below.after hw hb)
 replace rp0 := keep hb rp0
 replace rp1 := keep hb rp1
 replace hw := Below.after hw hb
 replace f4 := f4.below hb
 clear hb
 go_wp2_with (fail)
 refine (ct _ _ f4 hB).mono ?_
 rintro e w2 ⟨rfl, hb⟩
 replace rp0 := keep hb rp0
 replace rp1 := keep hb rp1
 replace hw := Below.after hw hb
 replace f4 := f4.below hb
 clear hb
 go_wp2_with (fail)
 refine (cp.at f4).mono ?_
 rintro e w3 ⟨rfl, hb⟩
 replace rp0 := keep hb rp0
 replace rp1 := keep hb rp1
 replace hw := Below.after hw hb
 replace f4 := f4.below hb
 clear hb
 go_wp2_with (first | (refine wpList_store_row rfl 45 _ _ rfl (w.heap.size + 1) xp rfl rfl 45 _ rp1 hxp.info ((show _ = 20 from rfl).trans hxp.size.symm) hxp.one ?_) | fail)
 exact bodyPost_ret (v := .agg xp) (results_cell_row Tryd.results20 _ _ (w.heap.size + 1) _ xp _ _ rfl (setRow_heap _ _ _ _ _ _ rp1) Tryd.underlying45 rfl hxp.info) rfl ⟨rfl, below_setRow hw (by omega) _⟩
end Go.Proofs.YtajaiiidafkijaaDoor
namespace Go.Proofs.YtajaiiidafkijaaDoor
set_option maxRecDepth 100000
open Go Go.RowKit Go.Sort
def b32 (N : Int) : List Int := [byt N 0, byt N 1, byt N 2, byt N 3, byt N 4, byt N 5, byt N 6, byt N 7, byt N 8, byt N 9, byt N 10, byt N 11, byt N 12, byt N 13, byt N 14, byt N 15, byt N 16, byt N 17, byt N 18, byt N 19, byt N 20, byt N 21, byt N 22, byt N 23, byt N 24, byt N 25, byt N 26, byt N 27, byt N 28, byt N 29, byt N 30, byt N 31]
theorem kb_b32 (N : Int) : kb N = ((b32 N).map (Value.int .u8)).toArray := rfl
theorem b32_bd (N : Int) : ∀ z ∈ b32 N, 0 ≤ z ∧ z < 256 := by
 intro z hz
 simp only [b32, List.mem_cons, List.not_mem_nil, or_false] at hz
 rcases hz with rfl | rfl | rfl | rfl | rfl | rfl | rfl | rfl | rfl | rfl | rfl | rfl | rfl | rfl | rfl | rfl | rfl | rfl | rfl | rfl | rfl | rfl | rfl | rfl | rfl | rfl | rfl | rfl | rfl | rfl | rfl | rfl <;> exact byt_bd N _
theorem bval_valB : ∀ l : List Int, (∀ z ∈ l, 0 ≤ z ∧ z < 256) → (bval l : Int) = valB l
 | [], _ => rfl
 | z :: l, h => by
  have ih := bval_valB l (fun y hy => h y (List.mem_cons_of_mem _ hy))
  have hz := h z (by simp)
  simp only [bval, valB]
  omega
theorem bval_b32 (N : Int) (h0 : 0 ≤ N) (h1 : N < 115792089237316195423570985008687907853269984665640564039457584007913129639936) : bval (b32 N) = N.toNat := by
 have e := bval_valB (b32 N) (b32_bd N)
 have v : valB (b32 N) = N := valB_byt N h0 h1
 rw [v] at e
 omega
theorem bys_row {w : World} {g : Nat} {N : Int} {t : TypeId} (r : w.heap[g]? = some (.cells (kb N) t (0, 0))) (_h : KeyOf (kb N) N) : Bys w (.slice (some ⟨g, 0, none⟩) 32 32) (b32 N) := by
 refine ⟨some ⟨g, 0, none⟩, 32, rfl, (by show 32 ≤ _; decide), fun j hj => ⟨g, 0, rfl, lt_of_row r, ?_⟩, b32_bd N⟩
 rw [Nat.zero_add, cell_of_row w g j _ _ _ r, kb_b32]
 rw [List.getElem?_toArray, List.getElem?_map, List.getElem?_eq_getElem hj, List.getD_eq_getElem?_getD, List.getElem?_eq_getElem hj]
 rfl
theorem keepc {w : World} {g o : Nat} {v : Value} (h : w.cell? ⟨g, o, none⟩ = some v) : Hid (∀ W, (∃ p : Regrown, W = grow (redrawn w p.d) p.os) → W.cell? ⟨g, o, none⟩ = some v) := by
 rintro W ⟨p, rfl⟩
 have hb := below_regrown w p.d p.os
 have hg : g < w.heap.size := by
  rcases Nat.lt_or_ge g w.heap.size with q | q
  ·exact q
  ·simp [World.cell?, Array.getElem?_eq_none q] at h
 exact (hb.cell (p := ⟨g, o, none⟩) hg).trans h
theorem wpQuiet_load_cell31 {P : Program} {C : World → Prop} {ops : Array Oper} {Q : Act → Prop} {a : Act} {o : Oper} {rest : List Oper} (hw : Region.wanted o (yielded ops a.tmps) = true) (ty : TypeId) (x : Operand) (ho : o.op = .load ty x)
 (g off : Nat) (hx : a.eval x = .pointer (some ⟨g, off, none⟩)) (v : Value) (hc : ∀ w, C w → w.cell? ⟨g, off, none⟩ = some v) {k : IntKind} (hu : P.underlying ty = some (.int k))
 (h : wpQuiet P ops C Q rest (a.put o.dst v)) : wpQuiet P ops C Q (o :: rest) a := by
 refine BigFrame.wpQuiet_want hw fun K hK => ⟨v, fun w hw => ?_, hK _ h⟩
 unfold Oper.quietAt execOp
 simp only [ho, hx, Instr.loadAt, Instr.sureAddr, Sem.run_bind, Sem.run_pure, Result.andThen_ok, run_loadVar_int w g off ty v (hc w hw) hu]
 exact ⟨by simp, rfl⟩
end Go.Proofs.YtajaiiidafkijaaDoor
namespace Go.Proofs.YtajaiiidafkijaaDoor
set_option maxRecDepth 100000
open Go.RowKit Go.Sort
attribute [local go_sem] setCell_drewN alloc_drewN
theorem by_step {A t z : Int} : (256 * (A * t % L19) + z * A) % L19 = A * (t * 256 + z) % L19 := by
 have e : A * (t * 256 + z) = 256 * (A * t) + z * A := by grind
 rw [e, Int.add_emod, Int.mul_emod 256, Int.emod_emod, ← Int.mul_emod, ← Int.add_emod]
theorem mod_L (x : Int) : 0 ≤ x % L19 ∧ x % L19 < L19 := by unfold L19; omega
set_option maxHeartbeats 8000000 in
set_option maxRecDepth 100000 in
theorem by_walk {xA : Array Value} {bs : List Int} (oA : WdO xA) (fR : Nat → Array Value) (oR : ∀ k, WdO (fR k)) (h0 : fR 0 = #[.int .u64 0, .int .u64 0, .int .u64 0, .int .u64 0]) (w : World) (ev : Value) (hF : Ord w) (hB : Bys w ev bs) (cN : ∀ k, k < bs.length → GivesO 125 #[.agg (fR k), .agg xA, .int .u8 (bat bs k)] (.agg (fR (k + 1)))) :
 Calls Tryd.prog 78 #[.agg xA, ev] w fun e w' => e = .returned (.agg (fR bs.length)) ∧ Below w.heap.size w w' := by
 obtain ⟨ao, cap, rfl, hl, hc, hz⟩ := hB
 generalize hlen : bs.length = len at *
 have rp0 := hp3_0 w (.cells xA 54) (.cells #[.int .u64 0, .int .u64 0, .int .u64 0, .int .u64 0] 54) (.cells #[.int .u64 0, .int .u64 0, .int .u64 0, .int .u64 0] 54)
 have rp1 := hp3_1 w (.cells xA 54) (.cells #[.int .u64 0, .int .u64 0, .int .u64 0, .int .u64 0] 54) (.cells #[.int .u64 0, .int .u64 0, .int .u64 0, .int .u64 0] 54)
 have rp2 := hp3_2 w (.cells xA 54) (.cells #[.int .u64 0, .int .u64 0, .int .u64 0, .int .u64 0] 54) (.cells #[.int .u64 0, .int .u64 0, .int .u64 0, .int .u64 0] 54)
 have hw : Below w.heap.size w (((w.alloc (.cells xA 54)).alloc (.cells #[.int .u64 0, .int .u64 0, .int .u64 0, .int .u64 0] 54)).alloc (.cells #[.int .u64 0, .int .u64 0, .int .u64 0, .int .u64 0] 54)) := (((Below.refl _ _).alloc (Nat.le_refl _) _).alloc (by simp) _).alloc (by simp; omega) _
 have f4 : Ord (((w.alloc (.cells xA 54)).alloc (.cells #[.int .u64 0, .int .u64 0, .int .u64 0, .int .u64 0] 54)).alloc (.cells #[.int .u64 0, .int .u64 0, .int .u64 0, .int .u64 0] 54)) := ((hF.alloc _).alloc _).alloc _
 have hsz := hF.sz
 go_enter Tryd.func78, Tryd.ntmps78
 go_wp2_with (fail)
 generalize (((w.alloc (.cells xA 54)).alloc (.cells #[.int .u64 0, .int .u64 0, .int .u64 0, .int .u64 0] 54)).alloc (.cells #[.int .u64 0, .int .u64 0, .int .u64 0, .int .u64 0] 54)) = w0 at *
 go_loopw [9] (fun i wr => ∃ k : Nat, k ≤ len ∧ i = .int .i64 k ∧ wr.heap[w.heap.size]? = some (.cells xA 54 (0, 0)) ∧ wr.heap[w.heap.size + 1]? = some (.cells #[.int .u64 0, .int .u64 0, .int .u64 0, .int .u64 0] 54 (0, 0)) ∧ wr.heap[w.heap.size + 1 + 1]? = some (.cells (fR k) 54 (0, 0)) ∧ Below w.heap.size w wr ∧ Ord wr) (fun i _ => len - (intOf i).toNat)
 case atStart => exact ⟨0, by omega, rfl, rp0, rp1, by rw [h0]; exact rp2, hw, f4⟩
 case round =>
  clear rp0 rp1 rp2 hw f4
  obtain ⟨k, hk, rfl, rp0, rp1, rp2, hw, f4⟩ := hrel
  have ok := oR k
  by_cases hlt : k < len
  ·have hd : decide ((k : Int) < (len : Int)) = true := by simp; omega
   obtain ⟨b, off, rfl, hb1, hb2⟩ := hc (len - 1 - k) (by omega)
   replace hb2 := (hw.cell hb1).trans hb2
   rw [show bs.getD (len - 1 - k) 0 = bat bs k by unfold bat; rw [hlen]] at hb2
   have cn := cN k hlt
   have ok1 := oR (k + 1)
   generalize bat bs k = z at *
   generalize hx1 : fR (k + 1) = x1 at *
   generalize fR k = x0 at *
   have wi : (len : Int) - 1 - k = ((len - 1 - k : Nat) : Int) := by omega
   have hCl := keepc hb2
   have H0 := keepr rp0
   have H2 := keepr rp2
   go_wp2_with (fail)
   refine wp_region_tail (C := fun w' => ∃ p : Regrown, w' = grow (redrawn wr p.d) p.os) 11 _ rfl rfl rfl (by kernel_rfl) (by kernel_rfl) (by kernel_rfl) (by kernel_rfl) ⟨⟨wr.drawn + 1, #[]⟩, by rw [grow_empty]; rfl⟩ ?_
   dsimp only [List.set, idle]
   refine wpQuiet_load_row rfl 54 _ rfl (w.heap.size + 1 + 1) rfl 54 x0 (0, 0) _ H2.out Tryd.underlying54 rfl ok.infoS ?_
   simp only [Act.put, ZPd, ZPe, ZPf]
   refine wpQuiet_load_row rfl 54 _ rfl (w.heap.size) rfl 54 xA (0, 0) _ H0.out Tryd.underlying54 rfl oA.infoS ?_
   simp only [Act.put, ZPd, ZPe, ZPf]
   go_big_quiet_step (fail)
   go_big_quiet_step (fail)
   go_big_quiet_step (fail)
   go_big_quiet_step (fail)
   go_big_quiet_step (fail)
   go_big_quiet_step (fail)
   go_big_quiet_step (fail)
   refine wpQuiet_load_cell31 rfl 5 _ rfl b (off + (len - 1 - k)) (by first | rfl | (rw [wi]; rfl)) _ hCl.out Tryd.underlying5 ?_
   simp only [Act.put, ZPd, ZPe, ZPf]
   go_big_quiet_step (exact cn.re f4)
   refine wpQuiet_idle rfl rfl rfl ?_
   rintro _ ⟨p, rfl⟩
   have hb := below_regrown wr p.d p.os
   generalize grow (redrawn wr p.d) p.os = w3 at *
   replace rp0 := keep hb rp0
   replace rp1 := keep hb rp1
   replace rp2 := keep hb rp2
   replace hw := Below.after hw hb
   replace f4 := f4.below hb
   clear hb H0 H2 hCl
   go_wp2_with (first | (refine wpList_store_row rfl 54 _ _ rfl (w.heap.size + 1 + 1) x1 rfl rfl 54 _ rp2 ok1.infoS (ok.fits ok1) ok1.2 ?_) | fail)
   go_roundw
   case rel => exact ⟨k + 1, by omega, by go_num, (setRow_other w3 (w.heap.size + 1 + 1) (w.heap.size) x1 (by omega)).trans rp0, (setRow_other w3 (w.heap.size + 1 + 1) (w.heap.size + 1) x1 (by omega)).trans rp1, by rw [hx1]; exact setRow_heap w3 (w.heap.size + 1 + 1) _ x1 _ _ rp2, below_setRow hw (by omega) x1, f4.setRow (show 2 < w.heap.size + 1 + 1 by omega) x1⟩
   case measure => simp [intOf]; omega
  ·obtain rfl : k = len := by omega
   have hd : decide ((k : Int) < (k : Int)) = false := by simp
   generalize hx0 : fR k = x0 at *
   have hx0 := hide hx0
   go_wp2_with (first | (refine wpList_load_want rfl 54 _ rfl (w.heap.size + 1 + 1) rfl 54 x0 (0, 0) _ rp2 Tryd.underlying54 rfl ok.infoS ?_) | (refine wpList_store_row rfl 54 _ _ rfl (w.heap.size + 1) x0 rfl rfl 54 _ rp1 ok.infoS ok.fit ok.2 ?_) | fail)
   exact bodyPost_ret (v := .agg x0) (results_cell_row Tryd.results78 _ _ (w.heap.size + 1) _ x0 _ _ rfl (setRow_heap _ _ _ _ _ _ rp1) Tryd.underlying54 rfl ok.infoS) rfl ⟨by rw [hx0.out], below_setRow hw (by omega) _⟩
theorem a_by {A : Int} (hA : 0 ≤ A ∧ A < L19) (bs : List Int) (w : World) (ev : Value) (hF : Ord w) (hB : Bys w ev bs) : Calls Tryd.prog 78 #[.agg (wd A), ev] w fun e w' => e = .returned (.agg (wd (A * (bval bs : Int) % L19))) ∧ Below w.heap.size w w' := by
 have h := by_walk (wdo A) (fun k => wd (A * (topv bs k : Int) % L19)) (fun _ => wdo _) (by show wd (A * ((topv bs 0 : Nat) : Int) % L19) = _; rw [topv_zero]; show wd (A * 0 % L19) = _; rw [Int.mul_zero]; rfl) w ev hF hB (fun k hk => by
  obtain ⟨_, _, _, _, _, hz⟩ := hB
  have hb := bat_bd hz (k := k) hk
  have := a_next (r := A * (topv bs k : Int) % L19) (a := A) (m := bat bs k) (mod_L _) hA hb
  rw [by_step] at this
  show GivesO _ _ (.agg (wd (A * ((topv bs (k + 1) : Nat) : Int) % L19)))
  rw [topv_succ hk]
  rw [show ((topv bs k * 256 + (bat bs k).toNat : Nat) : Int) = (topv bs k : Int) * 256 + bat bs k by omega]
  exact this)
 rw [topv_all] at h
 exact h
end Go.Proofs.YtajaiiidafkijaaDoor

