import Derived.Test.YtgfhoabgbgddbaaDoorProg
import Derived.WalkKit
import Derived.WalkSpells
import Derived.WalkLawsBesides
import Derived.Lib.QuietBelow
import Derived.BigQuiet
import Derived.Test.YtgfhoabgbgddbaaDoorCdKa
import Derived.Test.YtgfhoabgbgddbaaDoorCdDwe
import Derived.Test.YtgfhoabgbgddbaaDoorCdDwg
namespace Go.Proofs.YtgfhoabgbgddbaaDoor
set_option maxRecDepth 100000
open Go.RowKit Go.Sort
attribute [local go_sem] setCell_drewN alloc_drewN
theorem r4_inj {a b c d a' b' c' d' : Array Value} (h : r4 a b c d = r4 a' b' c' d') (ha : a.size = 5) (hb : b.size = 5) (hc : c.size = 5) (ha' : a'.size = 5) (hb' : b'.size = 5) (hc' : c'.size = 5) (hd : d.size = 5) (hd' : d'.size = 5) : a = a' ∧ b = b' ∧ c = c' ∧ d = d' := by
 have e0 : (r4 a b c d).extract 0 (0 + 5) = (r4 a' b' c' d').extract 0 (0 + 5) := by rw [h]
 have e1 : (r4 a b c d).extract 5 (5 + 5) = (r4 a' b' c' d').extract 5 (5 + 5) := by rw [h]
 have e2 : (r4 a b c d).extract 10 (10 + 5) = (r4 a' b' c' d').extract 10 (10 + 5) := by rw [h]
 have e3 : (r4 a b c d).extract 15 (15 + 5) = (r4 a' b' c' d').extract 15 (15 + 5) := by rw [h]
 have q0 := p_0 (a := a) (b := b) (c := c) (d := d); have q0' := p_0 (a := a') (b := b') (c := c') (d := d')
 have q1 := p5_1 (a := a) (b := b) (c := c) (d := d) ha; have q1' := p5_1 (a := a') (b := b') (c := c') (d := d') ha'
 have q2 := p5_2 (a := a) (b := b) (c := c) (d := d) ha hb; have q2' := p5_2 (a := a') (b := b') (c := c') (d := d') ha' hb'
 have q3 := p5_3 (a := a) (b := b) (c := c) (d := d) ha hb hc; have q3' := p5_3 (a := a') (b := b') (c := c') (d := d') ha' hb' hc'
 rw [ha] at q0; rw [ha'] at q0'; rw [hb] at q1; rw [hb'] at q1'; rw [hc] at q2; rw [hc'] at q2'; rw [hd] at q3; rw [hd'] at q3'
 exact ⟨by rw [← q0, ← q0', e0], by rw [← q1, ← q1', e1], by rw [← q2, ← q2', e2], by rw [← q3, ← q3', e3]⟩
theorem spo_inj {r : Array Value} {P Q : E1} (h : SpO r P) (g : SpO r Q) : P = Q := by
 obtain ⟨xr, yr, zr, tr, X, Y, Z, T, rfl, hx, hy, hz, ht, hP⟩ := h
 obtain ⟨ur, vr, wr, sr, X2, Y2, Z2, T2, he, hu, hv, hww, hs, hQ⟩ := g
 obtain ⟨rfl, rfl, rfl, rfl⟩ := r4_inj he hx.size hy.size hz.size hu.size hv.size hww.size ht.size hs.size
 have a := num_inj hx hu
 have b := num_inj hy hv
 have c := num_inj hz hww
 refine (sp_eq hP hQ).1 ⟨?_, ?_⟩
 ·rw [Int.mul_emod, a, ← c, ← Int.mul_emod]
 ·rw [Int.mul_emod, b, ← c, ← Int.mul_emod]
theorem ado_inj {r : Array Value} {P Q : E1} (h : AdO r P) (g : AdO r Q) : P = Q := by
 obtain ⟨xr, yr, zr, tr, X, Y, Z, T, rfl, hx, hy, hz, ht, hP⟩ := h
 obtain ⟨ur, vr, wr, sr, X2, Y2, Z2, T2, he, hu, hv, hww, hs, hQ⟩ := g
 obtain ⟨rfl, rfl, rfl, rfl⟩ := r4_inj he hx.size hy.size hz.size hu.size hv.size hww.size ht.size hs.size
 have a := zp_sub.2 (num_inj hx hu)
 have b := zp_sub.2 (num_inj hy hv)
 have c := zp_sub.2 (num_inj hz hww)
 have hX : Zp (X - X2) := zp_cancel (a := 243332) (zp_lin2 (-1) 1 a b (by grind)) n243332
 have hY : Zp (Y - Y2) := zp_cancel (a := 243332) (zp_lin2 1 1 a b (by grind)) n243332
 have hZ : Zp (Z - Z2) := zp_cancel (a := 243332) (zp_lin1 1 c (by grind)) n243332
 refine (sp_eq hP hQ).1 ⟨?_, ?_⟩
 ·rw [← zp_sub]; exact zp_lin2 Z2 (-X2) hX hZ (by grind)
 ·rw [← zp_sub]; exact zp_lin2 Z2 (-Y2) hY hZ (by grind)
noncomputable def nTw (r : Array Value) : Array Value := open Classical in if h : ∃ P, SpO r P then Classical.choose (a_twice (Classical.choose_spec h)) else r
theorem nTw_spec {r : Array Value} {P : E1} (h : SpO r P) : SpO (nTw r) (pl P P) ∧ Gives4 94 #[.agg r] (.agg (nTw r)) := by
 have hx : ∃ P, SpO r P := ⟨P, h⟩
 have e : nTw r = Classical.choose (a_twice (Classical.choose_spec hx)) := by unfold nTw; exact dif_pos hx
 have sp := Classical.choose_spec (a_twice (Classical.choose_spec hx))
 rw [← e, spo_inj (Classical.choose_spec hx) h] at sp
 exact sp
noncomputable def nPl (r s : Array Value) : Array Value := open Classical in if h : (∃ P, SpO r P) ∧ ∃ Q, AdO s Q then Classical.choose (a_plus (Classical.choose_spec h.1) (Classical.choose_spec h.2)) else r
theorem nPl_spec {r s : Array Value} {P Q : E1} (h : SpO r P) (g : AdO s Q) : SpO (nPl r s) (pl P Q) ∧ Gives4 92 #[.agg r, .agg s] (.agg (nPl r s)) := by
 have hx : (∃ P, SpO r P) ∧ ∃ Q, AdO s Q := ⟨⟨P, h⟩, ⟨Q, g⟩⟩
 have e : nPl r s = Classical.choose (a_plus (Classical.choose_spec hx.1) (Classical.choose_spec hx.2)) := by unfold nPl; exact dif_pos hx
 have sp := Classical.choose_spec (a_plus (Classical.choose_spec hx.1) (Classical.choose_spec hx.2))
 rw [← e, spo_inj (Classical.choose_spec hx.1) h, ado_inj (Classical.choose_spec hx.2) g] at sp
 exact sp
noncomputable def nOr (r s : Array Value) (on : Bool) : Array Value := open Classical in if h : (∃ P, SpO r P) ∧ ∃ Q, SpO s Q then Classical.choose (a_or (Classical.choose_spec h.1) (Classical.choose_spec h.2) on) else r
theorem nOr_spec {r s : Array Value} {P Q : E1} (h : SpO r P) (g : SpO s Q) (on : Bool) : SpO (nOr r s on) (if on = true then Q else P) ∧ Gives 116 #[.agg r, .agg s, .bool on] (.agg (nOr r s on)) := by
 have hx : (∃ P, SpO r P) ∧ ∃ Q, SpO s Q := ⟨⟨P, h⟩, ⟨Q, g⟩⟩
 have e : nOr r s on = Classical.choose (a_or (Classical.choose_spec hx.1) (Classical.choose_spec hx.2) on) := by unfold nOr; exact dif_pos hx
 have sp := Classical.choose_spec (a_or (Classical.choose_spec hx.1) (Classical.choose_spec hx.2) on)
 rw [← e, spo_inj (Classical.choose_spec hx.1) h, spo_inj (Classical.choose_spec hx.2) g] at sp
 exact sp
noncomputable def bitsS (a s : Array Value) (z : Nat) : Nat → Array Value
 | 0 => s
 | j + 1 => nOr (nTw (bitsS a s z j)) (nPl (nTw (bitsS a s z j)) a) (decide (z / 2 ^ (7 - j) % 2 = 1))
theorem bitsS_spec {a s : Array Value} {P : E1} {e z : Nat} (h : AdO a P) (g : SpO s (ml e P)) (hz : z < 256) : ∀ j, j ≤ 8 → SpO (bitsS a s z j) (ml (e * 2 ^ j + z / 2 ^ (8 - j)) P)
 | 0, _ => by
  rw [show z / 2 ^ (8 - 0) = 0 by omega, Nat.pow_zero, Nat.mul_one, Nat.add_zero]; exact g
 | j + 1, hj => by
  have ih := bitsS_spec h g hz j (by omega)
  have sq := (nTw_spec ih).1
  have m := (nPl_spec sq h).1
  have o := (nOr_spec sq m (decide (z / 2 ^ (7 - j) % 2 = 1))).1
  have hd : z / 2 ^ (8 - j) = z / 2 ^ (7 - j) / 2 := by
   rw [Nat.div_div_eq_div_mul, ← Nat.pow_succ, show (7 - j).succ = 8 - j by omega]
  have h2 : 2 ^ (j + 1) = 2 * 2 ^ j := by rw [Nat.pow_succ, Nat.mul_comm]
  have h3 : e * 2 ^ (j + 1) = e * 2 ^ j + e * 2 ^ j := by rw [h2, Nat.mul_left_comm]; omega
  unfold bitsS
  rw [show 8 - (j + 1) = 7 - j by omega, h3]
  rw [ml_two, ml_next] at o
  by_cases hb : z / 2 ^ (7 - j) % 2 = 1
  ·rw [decide_eq_true hb, if_pos rfl] at o
   rw [decide_eq_true hb, show e * 2 ^ j + e * 2 ^ j + z / 2 ^ (7 - j) = 2 * (e * 2 ^ j + z / 2 ^ (8 - j)) + 1 by omega]
   exact o
  ·rw [decide_eq_false hb, if_neg (by decide)] at o
   rw [decide_eq_false hb, show e * 2 ^ j + e * 2 ^ j + z / 2 ^ (7 - j) = 2 * (e * 2 ^ j + z / 2 ^ (8 - j)) by omega]
   exact o
noncomputable def bytesS (a o : Array Value) (bs : List Int) : Nat → Array Value
 | 0 => o
 | k + 1 => bitsS a (bytesS a o bs k) (bat bs k).toNat 8
theorem bytesS_spec {a o : Array Value} {P : E1} {bs : List Int} (h : AdO a P) (g : SpO o ze) (hz : ∀ z ∈ bs, 0 ≤ z ∧ z < 256) : ∀ k, k ≤ bs.length → SpO (bytesS a o bs k) (ml (topv bs k) P)
 | 0, _ => by rw [topv_zero]; exact g
 | k + 1, hk => by
  have b := bat_bd hz (k := k) (by omega)
  have := bitsS_spec h (bytesS_spec h g hz k (by omega)) (z := (bat bs k).toNat) (by omega) 8 (by omega)
  rw [Nat.sub_self, Nat.pow_zero, Nat.div_one] at this
  rw [topv_succ (by omega)]
  exact this
set_option maxHeartbeats 8000000 in
set_option maxRecDepth 100000 in
theorem times_walk {r a o : Array Value} {P : E1} {bs : List Int} (h : SpO r P) (ha : AdO a P) (ho : SpO o ze) (cA : Gives4 93 #[.agg r] (.agg a)) (cO : Gives 75 #[.agg #[.int .u64 0, .int .u64 0, .int .u64 0, .int .u64 0, .int .u64 0, .int .u64 0, .int .u64 0, .int .u64 0, .int .u64 0, .int .u64 0, .int .u64 0, .int .u64 0, .int .u64 0, .int .u64 0, .int .u64 0, .int .u64 0, .int .u64 0, .int .u64 0, .int .u64 0, .int .u64 0]] (.agg o)) (w : World) (ev : Value) (hF : Four w) (hB : Bys w ev bs) :
 Calls Tryd.prog 80 #[.agg r, ev] w fun e w' => e = .returned (.agg (bytesS a o bs bs.length)) ∧ Below w.heap.size w w' := by
 obtain ⟨ao, cap, rfl, hl, hc, hz⟩ := hB
 have hP := bytesS_spec ha ho hz
 generalize hlen : bs.length = len at *
 have rp0 : ((w.alloc (.cells r 98)).alloc (.cells #[.int .u64 0, .int .u64 0, .int .u64 0, .int .u64 0, .int .u64 0, .int .u64 0, .int .u64 0, .int .u64 0, .int .u64 0, .int .u64 0, .int .u64 0, .int .u64 0, .int .u64 0, .int .u64 0, .int .u64 0, .int .u64 0, .int .u64 0, .int .u64 0, .int .u64 0, .int .u64 0] 98)).heap[w.heap.size]? = some (.cells r 98 (0, 0)) := hp2_0 w _ _
 have rp1 : ((w.alloc (.cells r 98)).alloc (.cells #[.int .u64 0, .int .u64 0, .int .u64 0, .int .u64 0, .int .u64 0, .int .u64 0, .int .u64 0, .int .u64 0, .int .u64 0, .int .u64 0, .int .u64 0, .int .u64 0, .int .u64 0, .int .u64 0, .int .u64 0, .int .u64 0, .int .u64 0, .int .u64 0, .int .u64 0, .int .u64 0] 98)).heap[w.heap.size + 1]? = some (.cells #[.int .u64 0, .int .u64 0, .int .u64 0, .int .u64 0, .int .u64 0, .int .u64 0, .int .u64 0, .int .u64 0, .int .u64 0, .int .u64 0, .int .u64 0, .int .u64 0, .int .u64 0, .int .u64 0, .int .u64 0, .int .u64 0, .int .u64 0, .int .u64 0, .int .u64 0, .int .u64 0] 98 (0, 0)) := hp2_1 w _ _
 have hw : Below w.heap.size w ((w.alloc (.cells r 98)).alloc (.cells #[.int .u64 0, .int .u64 0, .int .u64 0, .int .u64 0, .int .u64 0, .int .u64 0, .int .u64 0, .int .u64 0, .int .u64 0, .int .u64 0, .int .u64 0, .int .u64 0, .int .u64 0, .int .u64 0, .int .u64 0, .int .u64 0, .int .u64 0, .int .u64 0, .int .u64 0, .int .u64 0] 98)) := (((Below.refl _ _).alloc (Nat.le_refl _) _).alloc (by simp) _)
 have hz0 := hF.1
 have f4 : Four ((w.alloc (.cells r 98)).alloc (.cells #[.int .u64 0, .int .u64 0, .int .u64 0, .int .u64 0, .int .u64 0, .int .u64 0, .int .u64 0, .int .u64 0, .int .u64 0, .int .u64 0, .int .u64 0, .int .u64 0, .int .u64 0, .int .u64 0, .int .u64 0, .int .u64 0, .int .u64 0, .int .u64 0, .int .u64 0, .int .u64 0] 98)) := ((hF.alloc _).alloc _)
 go_enter Tryd.func80, Tryd.ntmps80
 iterate 9 go_step
 generalize ((w.alloc (.cells r 98)).alloc (.cells #[.int .u64 0, .int .u64 0, .int .u64 0, .int .u64 0, .int .u64 0, .int .u64 0, .int .u64 0, .int .u64 0, .int .u64 0, .int .u64 0, .int .u64 0, .int .u64 0, .int .u64 0, .int .u64 0, .int .u64 0, .int .u64 0, .int .u64 0, .int .u64 0, .int .u64 0, .int .u64 0] 98)) = w0 at *
 go_wp2_with (first | (refine wpList_load_want rfl 98 _ rfl (w.heap.size) rfl 98 r (0, 0) _ rp0 Tryd.underlying98 rfl h.info ?_) | (refine wpList_load_want rfl 98 _ rfl (w.heap.size + 1) rfl 98 #[.int .u64 0, .int .u64 0, .int .u64 0, .int .u64 0, .int .u64 0, .int .u64 0, .int .u64 0, .int .u64 0, .int .u64 0, .int .u64 0, .int .u64 0, .int .u64 0, .int .u64 0, .int .u64 0, .int .u64 0, .int .u64 0, .int .u64 0, .int .u64 0, .int .u64 0, .int .u64 0] (0, 0) _ rp1 Tryd.underlying98 rfl (by kernel_rfl) ?_) | fail)
 refine (cA.at f4).mono ?_
 rintro e w2 ⟨rfl, hb⟩
 replace rp0 := keep hb rp0
 replace rp1 := keep hb rp1
 replace hw := Below.after hw hb
 replace f4 := f4.below hb
 clear hb
 go_wp2_with (first | (refine wpList_store_row rfl 112 _ _ rfl (w2.heap.size) a rfl rfl 112 #[.int .u64 0, .int .u64 0, .int .u64 0, .int .u64 0, .int .u64 0, .int .u64 0, .int .u64 0, .int .u64 0, .int .u64 0, .int .u64 0, .int .u64 0, .int .u64 0, .int .u64 0, .int .u64 0, .int .u64 0, .int .u64 0, .int .u64 0, .int .u64 0, .int .u64 0, .int .u64 0] (hp1_0 w2 _) ha.info (ha.size).symm ha.one ?_; rw [setRow_alloc_new _ _ _ _ _ _ (by simp)]; refine wpList_stay ?_) | fail)
 unfold WpStay
 try simp only [Act.put]
 have rl5 : (w2.alloc (.cells a 112)).heap[w2.heap.size]? = some (.cells a 112 (0, 0)) := hp1_0 w2 _
 have hb : Below w2.heap.size w2 (w2.alloc (.cells a 112)) := ((Below.refl _ _).alloc (Nat.le_refl _) _)
 generalize (w2.alloc (.cells a 112)) = wa at *
 have yg5_0 := lt_of_row rp0
 have yg5_1 := lt_of_row rp1
 have yg5 := hw.size
 have zg5 := f4.1
 replace rp0 := keep hb rp0
 replace rp1 := keep hb rp1
 replace hw := Below.after hw hb
 replace f4 := f4.below hb
 clear hb
 generalize w2.heap.size = g5 at *
 clear w2
 go_wp2_with (first | (refine wpList_build_as rfl 29 _ rfl [] rfl #[.int .u64 0, .int .u64 0, .int .u64 0, .int .u64 0, .int .u64 0, .int .u64 0, .int .u64 0, .int .u64 0, .int .u64 0, .int .u64 0, .int .u64 0, .int .u64 0, .int .u64 0, .int .u64 0, .int .u64 0, .int .u64 0, .int .u64 0, .int .u64 0, .int .u64 0, .int .u64 0] (by kernel_rfl) ?_) | fail)
 refine (cO.at _).mono ?_
 rintro e wo0 ⟨rfl, hb⟩
 replace rp0 := keep hb rp0
 replace rp1 := keep hb rp1
 replace rl5 := keep hb rl5
 replace hw := Below.after hw hb
 replace f4 := f4.below hb
 clear hb
 go_wp2_with (first | (refine wpList_store_row rfl 98 _ _ rfl (wo0.heap.size) o rfl rfl 98 #[.int .u64 0, .int .u64 0, .int .u64 0, .int .u64 0, .int .u64 0, .int .u64 0, .int .u64 0, .int .u64 0, .int .u64 0, .int .u64 0, .int .u64 0, .int .u64 0, .int .u64 0, .int .u64 0, .int .u64 0, .int .u64 0, .int .u64 0, .int .u64 0, .int .u64 0, .int .u64 0] (hp1_0 wo0 _) ho.info (ho.size).symm ho.one ?_; rw [setRow_alloc_new _ _ _ _ _ _ (by simp)]; refine wpList_stay ?_) | fail)
 unfold WpStay
 try simp only [Act.put]
 have rl6 : (wo0.alloc (.cells o 98)).heap[wo0.heap.size]? = some (.cells o 98 (0, 0)) := hp1_0 wo0 _
 have hb : Below wo0.heap.size wo0 (wo0.alloc (.cells o 98)) := ((Below.refl _ _).alloc (Nat.le_refl _) _)
 generalize (wo0.alloc (.cells o 98)) = wb at *
 have yg6_0 := lt_of_row rp0
 have yg6_1 := lt_of_row rp1
 have yg6_2 := lt_of_row rl5
 have yg6 := hw.size
 have zg6 := f4.1
 replace rp0 := keep hb rp0
 replace rp1 := keep hb rp1
 replace rl5 := keep hb rl5
 replace hw := Below.after hw hb
 replace f4 := f4.below hb
 clear hb
 generalize wo0.heap.size = g6 at *
 clear wo0
 go_wp2_with (fail)
 go_loopw [16] (fun i wr => ∃ k : Nat, k ≤ len ∧ i = .int .i64 k ∧ wr.heap[w.heap.size]? = some (.cells r 98 (0, 0)) ∧ wr.heap[w.heap.size + 1]? = some (.cells #[.int .u64 0, .int .u64 0, .int .u64 0, .int .u64 0, .int .u64 0, .int .u64 0, .int .u64 0, .int .u64 0, .int .u64 0, .int .u64 0, .int .u64 0, .int .u64 0, .int .u64 0, .int .u64 0, .int .u64 0, .int .u64 0, .int .u64 0, .int .u64 0, .int .u64 0, .int .u64 0] 98 (0, 0)) ∧ wr.heap[g5]? = some (.cells a 112 (0, 0)) ∧ wr.heap[g6]? = some (.cells (bytesS a o bs k) 98 (0, 0)) ∧ Below w.heap.size w wr ∧ Four wr) (fun i _ => len - (intOf i).toNat)
 case atStart => exact ⟨0, by omega, rfl, rp0, rp1, rl5, rl6, hw, f4⟩
 case round =>
  clear rp0 rp1 rl5 rl6 hw f4
  obtain ⟨k, hk, rfl, rp0, rp1, rl5, rl6, hw, f4⟩ := hrel
  have hn := hP k hk
  by_cases hlt : k < len
  ·have hd : decide ((k : Int) < (len : Int)) = true := by simp; omega
   obtain ⟨b, off, rfl, hb1, hb2⟩ := hc (len - 1 - k) (by omega)
   replace hb2 := (hw.cell hb1).trans hb2
   have hbat := bat_bd hz (k := k) (by omega)
   rw [show bs.getD (len - 1 - k) 0 = bat bs k by unfold bat; rw [hlen]] at hb2
   generalize hzz : bat bs k = z at *
   go_wp2
   go_loopw [27] (fun i wv => ∃ j : Nat, j ≤ 8 ∧ i = .int .i64 j ∧ wv.heap[w.heap.size]? = some (.cells r 98 (0, 0)) ∧ wv.heap[w.heap.size + 1]? = some (.cells #[.int .u64 0, .int .u64 0, .int .u64 0, .int .u64 0, .int .u64 0, .int .u64 0, .int .u64 0, .int .u64 0, .int .u64 0, .int .u64 0, .int .u64 0, .int .u64 0, .int .u64 0, .int .u64 0, .int .u64 0, .int .u64 0, .int .u64 0, .int .u64 0, .int .u64 0, .int .u64 0] 98 (0, 0)) ∧ wv.heap[g5]? = some (.cells a 112 (0, 0)) ∧ wv.heap[g6]? = some (.cells (bitsS a (bytesS a o bs k) z.toNat j) 98 (0, 0)) ∧ Below w.heap.size w wv ∧ Four wv) (fun i _ => 8 - (intOf i).toNat)
   case atStart => exact ⟨0, by omega, rfl, rp0, rp1, rl5, rl6, hw, f4⟩
   case round =>
    clear rp0 rp1 rl5 rl6 hw f4 hb2
    obtain ⟨j, hj, rfl, rp0, rp1, rl5, rl6, hw, f4⟩ := hrel
    have hbn := bitsS_spec ha hn (z := z.toNat) (by omega) j hj
    by_cases hlj : j < 8
    ·have hdj : decide ((j : Int) < 8) = true := by simp; omega
     obtain ⟨hs, cs⟩ := nTw_spec hbn
     obtain ⟨hm, cm⟩ := nPl_spec hs ha
     have hstep : bitsS a (bytesS a o bs k) z.toNat (j + 1) = nOr (nTw (bitsS a (bytesS a o bs k) z.toNat j)) (nPl (nTw (bitsS a (bytesS a o bs k) z.toNat j)) a) (decide (z.toNat / 2 ^ (7 - j) % 2 = 1)) := rfl
     have hs3 := bitsS_spec ha hn (z := z.toNat) (by omega) (j + 1) (by omega)
     rw [hstep] at hs3
     generalize bitsS a (bytesS a o bs k) z.toNat j = s0 at *
     have csw := fun on => (nOr_spec hs hm on).2
     generalize nPl (nTw s0) a = s2 at *
     generalize nTw s0 = s1 at *
     go_wp2_with (first | (refine wpList_load_want rfl 98 _ rfl (g6) rfl 98 s0 (0, 0) _ rl6 Tryd.underlying98 rfl hbn.info ?_) | fail)
     refine (cs.at f4).mono ?_
     rintro e w1 ⟨rfl, hb⟩
     replace rp0 := keep hb rp0
     replace rp1 := keep hb rp1
     replace rl5 := keep hb rl5
     replace rl6 := keep hb rl6
     replace hw := Below.after hw hb
     replace f4 := f4.below hb
     clear hb
     go_wp2_with (first | (refine wpList_store_row rfl 98 _ _ rfl (g6) s1 rfl rfl 98 _ rl6 hs.info (hbn.size.trans hs.size.symm) hs.one ?_) | fail)
     replace rp0 := (setRow_other w1 g6 (w.heap.size) s1 (by omega)).trans rp0
     replace rp1 := (setRow_other w1 g6 (w.heap.size + 1) s1 (by omega)).trans rp1
     replace rl5 := (setRow_other w1 g6 (g5) s1 (by omega)).trans rl5
     replace rl6 := setRow_heap w1 g6 _ s1 _ _ rl6
     replace hw := below_setRow hw (show w.heap.size ≤ g6 by omega) s1
     replace f4 := f4.setRow (show 3 < g6 by omega) s1
     generalize w1.setRow g6 s1 = w2 at *
     have Hrl5 := keepr rl5
     have Hrl6 := keepr rl6
     refine wp_region_tail (C := fun w' => ∃ p : Regrown, w' = grow (redrawn w2 p.d) p.os) 11 _ rfl rfl rfl (by kernel_rfl) (by kernel_rfl) (by kernel_rfl) (by kernel_rfl) ⟨⟨w2.drawn + 1, #[]⟩, by rw [grow_empty]; rfl⟩ ?_
     dsimp only [List.set, idle]
     refine wpQuiet_load_row rfl 98 _ rfl (g6) rfl 98 s1 (0, 0) _ Hrl6.out Tryd.underlying98 rfl hs.info ?_
     simp only [Act.put, List.setIfInBounds_toArray, List.set_cons_succ, List.set_cons_zero]
     refine wpQuiet_load_row rfl 98 _ rfl (g6) rfl 98 s1 (0, 0) _ Hrl6.out Tryd.underlying98 rfl hs.info ?_
     simp only [Act.put, List.setIfInBounds_toArray, List.set_cons_succ, List.set_cons_zero]
     refine wpQuiet_load_row rfl 112 _ rfl (g5) rfl 112 a (0, 0) _ Hrl5.out Tryd.underlying112 rfl ha.info ?_
     simp only [Act.put, List.setIfInBounds_toArray, List.set_cons_succ, List.set_cons_zero]
     go_big_quiet_step (exact cm.re f4)
     go_big_quiet_step (fail)
     go_big_quiet_step (fail)
     go_big_quiet_step (fail)
     go_big_quiet_step (fail)
     go_big_quiet_step (fail)
     go_big_quiet_step (fail)
     go_big_quiet_step (exact (csw _).re)
     refine wpQuiet_idle rfl rfl rfl ?_
     rintro _ ⟨p, rfl⟩
     have hb := below_regrown w2 p.d p.os
     generalize grow (redrawn w2 p.d) p.os = w3 at *
     replace rp0 := keep hb rp0
     replace rp1 := keep hb rp1
     replace rl5 := keep hb rl5
     replace rl6 := keep hb rl6
     replace hw := Below.after hw hb
     replace f4 := f4.below hb
     clear hb Hrl5 Hrl6
     simp only [bit_at z (7 - j) hbat.1 hbat.2]
     rw [← hstep] at hs3 ⊢
     generalize hs3e : bitsS a (bytesS a o bs k) z.toNat (j + 1) = s3 at *
     clear hstep
     go_wp2_with (first | (refine wpList_store_row rfl 98 _ _ rfl (g6) s3 rfl rfl 98 _ rl6 hs3.info (hs.size.trans hs3.size.symm) hs3.one ?_) | fail)
     go_roundw
     case rel => exact ⟨j + 1, by omega, by go_num, (setRow_other w3 g6 (w.heap.size) s3 (by omega)).trans rp0, (setRow_other w3 g6 (w.heap.size + 1) s3 (by omega)).trans rp1, (setRow_other w3 g6 g5 s3 (by omega)).trans rl5, by rw [hs3e]; exact setRow_heap w3 g6 _ s3 _ _ rl6, below_setRow hw (show w.heap.size ≤ g6 by omega) s3, f4.setRow (show 3 < g6 by omega) s3⟩
     case measure => simp [intOf]; omega
    ·obtain rfl : j = 8 := by omega
     have hdj : decide ((8 : Int) < 8) = false := by decide
     go_wp2
     go_roundw
     case rel => exact ⟨k + 1, by omega, by go_num, rp0, rp1, rl5, by rw [show bytesS a o bs (k + 1) = bitsS a (bytesS a o bs k) z.toNat 8 by rw [← hzz]; rfl]; exact rl6, hw, f4⟩
     case measure => simp [intOf]; omega
  ·obtain rfl : k = len := by omega
   have hd : decide ((k : Int) < (k : Int)) = false := by simp
   go_wp2_with (first | (refine wpList_load_want rfl 98 _ rfl (g6) rfl 98 (bytesS a o bs k) (0, 0) _ rl6 Tryd.underlying98 rfl hn.info ?_) | (refine wpList_store_row rfl 98 _ _ rfl (w.heap.size + 1) (bytesS a o bs k) rfl rfl 98 _ rp1 hn.info ((show _ = 20 from rfl).trans hn.size.symm) hn.one ?_) | fail)
   exact bodyPost_ret (v := .agg (bytesS a o bs k)) (results_cell_row Tryd.results80 _ _ (w.heap.size + 1) _ (bytesS a o bs k) _ _ rfl (setRow_heap _ _ _ _ _ _ rp1) Tryd.underlying98 rfl hn.info) rfl ⟨rfl, below_setRow hw (by omega) _⟩
theorem a_times19 {r : Array Value} {P : E1} (h : SpO r P) (bs : List Int) (hz : ∀ z ∈ bs, 0 ≤ z ∧ z < 256) : ∃ s, SpO s (ml (bval bs) P) ∧ ∀ (w : World) (ev : Value), Four w → Bys w ev bs → Calls Tryd.prog 80 #[.agg r, ev] w fun e w' => e = .returned (.agg s) ∧ Below w.heap.size w w' := by
 obtain ⟨a, ha, cA⟩ := a_ready h
 obtain ⟨o, ho, cO⟩ := a_spot pt_zero
 refine ⟨bytesS a o bs bs.length, ?_, fun w ev hF hB => times_walk h ha ho cA cO w ev hF hB⟩
 rw [← topv_all]
 exact bytesS_spec ha ho hz _ (Nat.le_refl _)
theorem re_bys4 {f : FuncId} {a v ev : Value} {bs : List Int} {w : World} {d : Nat} {os : Array Obj} (hF : Four w) (hB : Bys w ev bs) (c : ∀ (w : World) (ev' : Value), Four w → Bys w ev' bs → Calls Tryd.prog f #[a, ev'] w fun e w' => e = .returned v ∧ Below w.heap.size w w') : Calls Tryd.prog f #[a, ev] (grow (redrawn w d) os) fun e w'' => e = .returned v ∧ ∃ p : Regrown, w'' = grow (redrawn w p.d) p.os :=
 Calls.regrown_of (c _ ev (hF.below (below_regrown w d os)) (hB.keep (below_regrown w d os)))
set_option maxRecDepth 100000 in
set_option maxHeartbeats 8000000 in
theorem a_Scale {r : Array Value} {P : E1} (h : PtO r P) (bs : List Int) (hz : ∀ z ∈ bs, 0 ≤ z ∧ z < 256) : ∃ s, PtO s (ml (bval bs) P) ∧ ∀ (w : World) (ev : Value), Four w → Bys w ev bs → Calls Tryd.prog 21 #[.agg r, ev] w fun e w' => e = .returned (.agg s) ∧ Below w.heap.size w w' := by
 obtain ⟨xs, hxs, cs⟩ := a_spot h
 obtain ⟨xt, hxt, ct⟩ := a_times19 hxs bs hz
 obtain ⟨xp, hxp, cp⟩ := a_point hxt
 refine ⟨xp, hxp, fun w ev hF hB => ?_⟩
 have rp0 : ((w.alloc (.cells r 29)).alloc (.cells #[.int .u64 0, .int .u64 0, .int .u64 0, .int .u64 0, .int .u64 0, .int .u64 0, .int .u64 0, .int .u64 0, .int .u64 0, .int .u64 0, .int .u64 0, .int .u64 0, .int .u64 0, .int .u64 0, .int .u64 0, .int .u64 0, .int .u64 0, .int .u64 0, .int .u64 0, .int .u64 0] 29)).heap[w.heap.size]? = some (.cells r 29 (0, 0)) := hp2_0 w _ _
 have rp1 : ((w.alloc (.cells r 29)).alloc (.cells #[.int .u64 0, .int .u64 0, .int .u64 0, .int .u64 0, .int .u64 0, .int .u64 0, .int .u64 0, .int .u64 0, .int .u64 0, .int .u64 0, .int .u64 0, .int .u64 0, .int .u64 0, .int .u64 0, .int .u64 0, .int .u64 0, .int .u64 0, .int .u64 0, .int .u64 0, .int .u64 0] 29)).heap[w.heap.size + 1]? = some (.cells #[.int .u64 0, .int .u64 0, .int .u64 0, .int .u64 0, .int .u64 0, .int .u64 0, .int .u64 0, .int .u64 0, .int .u64 0, .int .u64 0, .int .u64 0, .int .u64 0, .int .u64 0, .int .u64 0, .int .u64 0, .int .u64 0, .int .u64 0, .int .u64 0, .int .u64 0, .int .u64 0] 29 (0, 0)) := hp2_1 w _ _
 have hw : Below w.heap.size w ((w.alloc (.cells r 29)).alloc (.cells #[.int .u64 0, .int .u64 0, .int .u64 0, .int .u64 0, .int .u64 0, .int .u64 0, .int .u64 0, .int .u64 0, .int .u64 0, .int .u64 0, .int .u64 0, .int .u64 0, .int .u64 0, .int .u64 0, .int .u64 0, .int .u64 0, .int .u64 0, .int .u64 0, .int .u64 0, .int .u64 0] 29)) := (((Below.refl _ _).alloc (Nat.le_refl _) _).alloc (by simp) _)
 have hz0 := hF.1
 have f4 : Four ((w.alloc (.cells r 29)).alloc (.cells #[.int .u64 0, .int .u64 0, .int .u64 0, .int .u64 0, .int .u64 0, .int .u64 0, .int .u64 0, .int .u64 0, .int .u64 0, .int .u64 0, .int .u64 0, .int .u64 0, .int .u64 0, .int .u64 0, .int .u64 0, .int .u64 0, .int .u64 0, .int .u64 0, .int .u64 0, .int .u64 0] 29)) := ((hF.alloc _).alloc _)
 go_enter Tryd.func21, Tryd.ntmps21
 iterate 9 go_step
 generalize ((w.alloc (.cells r 29)).alloc (.cells #[.int .u64 0, .int .u64 0, .int .u64 0, .int .u64 0, .int .u64 0, .int .u64 0, .int .u64 0, .int .u64 0, .int .u64 0, .int .u64 0, .int .u64 0, .int .u64 0, .int .u64 0, .int .u64 0, .int .u64 0, .int .u64 0, .int .u64 0, .int .u64 0, .int .u64 0, .int .u64 0] 29)) = w0 at *
 go_wp2_with (first | (refine wpList_load_want rfl 29 _ rfl (w.heap.size) rfl 29 r (0, 0) _ rp0 Tryd.underlying29 rfl h.info ?_) | (refine wpList_load_want rfl 29 _ rfl (w.heap.size + 1) rfl 29 #[.int .u64 0, .int .u64 0, .int .u64 0, .int .u64 0, .int .u64 0, .int .u64 0, .int .u64 0, .int .u64 0, .int .u64 0, .int .u64 0, .int .u64 0, .int .u64 0, .int .u64 0, .int .u64 0, .int .u64 0, .int .u64 0, .int .u64 0, .int .u64 0, .int .u64 0, .int .u64 0] (0, 0) _ rp1 Tryd.underlying29 rfl (by kernel_rfl) ?_) | fail)
 refine (cs.at _).mono ?_
 rintro e w1 ⟨rfl, hb⟩
 replace hB := hB.keep (Below.after hw hb)
 replace rp0 := keep hb rp0
 replace rp1 := keep hb rp1
 replace hw := Below.after hw hb
 replace f4 := f4.below hb
 clear hb
 go_wp2_with (fail)
 refine (ct _ _ f4 hB).mono ?_
 rintro e w2 ⟨rfl, hb⟩
 replace rp0 := keep hb rp0
 replace rp1 := keep hb rp1
 replace hw := Below.after hw hb
 replace f4 := f4.below hb
 clear hb
 go_wp2_with (fail)
 refine (cp.at f4).mono ?_
 rintro e w3 ⟨rfl, hb⟩
 replace rp0 := keep hb rp0
 replace rp1 := keep hb rp1
 replace hw := Below.after hw hb
 replace f4 := f4.below hb
 clear hb
 go_wp2_with (first | (refine wpList_store_row rfl 29 _ _ rfl (w.heap.size + 1) xp rfl rfl 29 _ rp1 hxp.info ((show _ = 20 from rfl).trans hxp.size.symm) hxp.one ?_) | fail)
 exact bodyPost_ret (v := .agg xp) (results_cell_row Tryd.results21 _ _ (w.heap.size + 1) _ xp _ _ rfl (setRow_heap _ _ _ _ _ _ rp1) Tryd.underlying29 rfl hxp.info) rfl ⟨rfl, below_setRow hw (by omega) _⟩
end Go.Proofs.YtgfhoabgbgddbaaDoor

