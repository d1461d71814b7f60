import Derived.Test.YtleeadbceljfbaaGreatDoorCEvw
import Derived.Test.YtleeadbceljfbaaGreatDoorCWh
import Derived.OwnWalk
import Derived.Deep.Cut
import Derived.Deep.RegionHeld3
import Derived.ChangeSlices
import Derived.SizedLaws
import Derived.Test.YtleeadbceljfbaaGreatDoorCJrx
namespace Go.Proofs.YtleeadbceljfbaaGreatDoor
set_option maxRecDepth 100000
open Go Go.RowKit Go.Sort Go.ChangeShapes Go.WideShapes Go.Deep
attribute [local go_sem] setCell_drewN alloc_drewN
theorem eq_non (d : Nat) (x y : List Int) (hx : x.length = 16) (hy : y.length = 16) (W : World) : (Op.equalIn (d + 2) 46 (.agg (irow .u8 x)) (.agg (irow .u8 y))).run Tryz.prog W = .ok (decide (x = y)) W := by
 obtain ⟨i0, hi⟩ := iU8g
 unfold irow
 rw [run_equalIn_array W (d + 1) _ _ Tryz.underlying46 hi, cU8g, run_eqItems_int d W Tryz.underlying5 hi x y (List.range 16) (fun i h => by simp at h; omega)]
 congr 1
 rw [Bool.eq_iff_iff]
 simp only [List.all_eq_true, List.mem_range, beq_iff_eq, decide_eq_true_eq]
 constructor
 · intro h
   apply List.ext_getElem (by omega)
   intro i h1 h2
   have := h i (by omega)
   simpa [h1, h2] using this
 · rintro rfl i _
   rfl
theorem infoNn (nonce : List B) (hn : nonce.length = 16) : (Tryz.prog.info? 46).map (·.size) = some (irow .u8 (bl nonce)).size := by
 rw [show (irow .u8 (bl nonce)).size = 16 by simp [irow, bl, hn]]
 kernel_rfl
set_option maxRecDepth 100000 in
set_option maxHeartbeats 8000000 in
theorem l_sameEnv (ver : Int) (nonce hd bd : List B) (hn : nonce.length = 16) (ha : Option Addr) (hc : Nat) (ba : Option Addr) (bc : Nat) (ia : Option Addr) (ic : Nat) (ja : Option Addr) (jc : Nat) (w : World) (h1 : Bys w (.slice ha hd.length hc) (bl hd)) (h2 : Bys w (.slice ba bd.length bc) (bl bd)) (h3 : Bys w (.slice ia hd.length ic) (bl hd)) (h4 : Bys w (.slice ja bd.length jc) (bl bd)) : Calls Tryz.prog 25 #[.agg (evl ver nonce (.slice ha hd.length hc) (.slice ba bd.length bc)), .agg (evl ver nonce (.slice ia hd.length ic) (.slice ja bd.length jc))] w fun e w' => e = .returned (.bool true) ∧ Below w.heap.size w w' := by
 have R0 := hp2_0 w (.cells (evl ver nonce (.slice ha hd.length hc) (.slice ba bd.length bc)) 48) (.cells (evl ver nonce (.slice ia hd.length ic) (.slice ja bd.length jc)) 48)
 have R1 := hp2_1 w (.cells (evl ver nonce (.slice ha hd.length hc) (.slice ba bd.length bc)) 48) (.cells (evl ver nonce (.slice ia hd.length ic) (.slice ja bd.length jc)) 48)
 have hw : Below w.heap.size w ((w.alloc (.cells (evl ver nonce (.slice ha hd.length hc) (.slice ba bd.length bc)) 48)).alloc (.cells (evl ver nonce (.slice ia hd.length ic) (.slice ja bd.length jc)) 48)) := ((Below.refl _ _).alloc (Nat.le_refl _) _).alloc (by simp) _
 replace h1 := h1.keep hw
 replace h2 := h2.keep hw
 replace h3 := h3.keep hw
 replace h4 := h4.keep hw
 have eN := hide (fun W : World => eq_non 9998 (bl nonce) (bl nonce) (by rw [bl_len, hn]) (by rw [bl_len, hn]) W)
 simp only [decide_true] at eN
 have dec1 : (decide (hd = hd)) = true := decide_eq_true rfl
 go_enter Tryz.func25, Tryz.ntmps25
 go_upto_region 1 with (first | (refine wpList_box rfl 48 _ rfl _ rfl (bEv _) ?_) | fail)
 try simp only [size_alloc1, Act.put, List.setIfInBounds_toArray, List.set_cons_succ, List.set_cons_zero]
 generalize (w.alloc (.cells (evl ver nonce (.slice ha hd.length hc) (.slice ba bd.length bc)) 48)).alloc (.cells (evl ver nonce (.slice ia hd.length ic) (.slice ja bd.length jc)) 48) = w0 at *
 have c0 : w0.cell? ⟨w.heap.size, 0, none⟩ = some (.int .i64 ver) := by rw [cell_of_row _ _ _ _ _ _ R0]; exact evl_0 _ _ _ _
 have c1 : w0.cell? ⟨w.heap.size + 1, 0, none⟩ = some (.int .i64 ver) := by rw [cell_of_row _ _ _ _ _ _ R1]; exact evl_0 _ _ _ _
 have c2 : w0.cell? ⟨w.heap.size, 17, none⟩ = some (.slice ha hd.length hc) := by rw [cell_of_row _ _ _ _ _ _ R0]; exact evl_h _ _ hn _ _
 have c3 : w0.cell? ⟨w.heap.size + 1, 17, none⟩ = some (.slice ia hd.length ic) := by rw [cell_of_row _ _ _ _ _ _ R1]; exact evl_h _ _ hn _ _
 have cS := sB_same hd hd w0 _ _ h1 h3
 rw [dec1] at cS
 replace cS := hide cS
 replace dec1 := hide dec1
 go_wp2_with (first | (refine wpList_load_part rfl 46 _ rfl (w.heap.size) 1 rfl 48 (evl ver nonce (.slice ha hd.length hc) (.slice ba bd.length bc)) (0, 0) (irow .u8 (bl nonce)) _ R0 (evl_n _ _ hn _ _) Tryz.underlying46 rfl (infoNn _ hn) ?_) | (refine wpList_load_part rfl 46 _ rfl (w.heap.size + 1) 1 rfl 48 (evl ver nonce (.slice ia hd.length ic) (.slice ja bd.length jc)) (0, 0) (irow .u8 (bl nonce)) _ R1 (evl_n _ _ hn _ _) Tryz.underlying46 rfl (infoNn _ hn) ?_) | (refine wpList_eql rfl 46 46 _ _ rfl (irow .u8 (bl nonce)) (irow .u8 (bl nonce)) rfl rfl (by kernel_rfl) true (eN.out _) ?_) | fail)
 refine cS.out.mono ?_
 rintro e_ w1 ⟨rfl, hb⟩
 have l1 := lt_of_row R1
 replace R0 := keep hb R0
 replace R1 := keep hb R1
 replace h2 := h2.keep hb
 replace h4 := h4.keep hb
 replace hw := Below.after hw hb
 clear hb cS c0 c1 c2 c3
 have c4 : w1.cell? ⟨w.heap.size, 18, none⟩ = some (.slice ba bd.length bc) := by rw [cell_of_row _ _ _ _ _ _ R0]; exact evl_b _ _ hn _ _
 have c5 : w1.cell? ⟨w.heap.size + 1, 18, none⟩ = some (.slice ja bd.length jc) := by rw [cell_of_row _ _ _ _ _ _ R1]; exact evl_b _ _ hn _ _
 have cS := sB_same bd bd w1 _ _ h2 h4
 rw [show (decide (bd = bd)) = true from decide_eq_true rfl] at cS
 replace cS := hide cS
 go_wp2_with (fail)
 refine cS.out.mono ?_
 rintro e_ w2 ⟨rfl, hb⟩
 replace hw := Below.after hw hb
 clear hb cS
 go_wp2_with (fail)
 go_ret
 exact ⟨rfl, hw⟩
theorem to_bl : ∀ (l : List Int), (∀ z ∈ l, 0 ≤ z ∧ z < 256) → ∃ bs : List B, l = bl bs ∧ bs.length = l.length
 | [], _ => ⟨[], rfl, rfl⟩
 | z :: r, h => by
   obtain ⟨n, hn⟩ := Int.eq_ofNat_of_zero_le (h z (by simp)).1
   have hz := (h z (by simp)).2
   obtain ⟨bs, e1, e2⟩ := to_bl r (fun y hy => h y (by simp [hy]))
   refine ⟨BitVec.ofNat 8 n :: bs, ?_, by simp [e2]⟩
   have e3 : z = bv (BitVec.ofNat 8 n) := by unfold bv; rw [BitVec.toNat_ofNat, hn]; omega
   rw [e1]
   show z :: bl bs = bv _ :: bl bs
   rw [← e3]
theorem cells_bytes6 {H : Type} {enc : TypeId × Value → H} {W : World} {m n : Nat} {t : TypeId} {cs : List Value} {x : DataW H × List MemPlace} (hu : Tryz.prog.underlying t = some (.array n 5)) (hc : Tryz.prog.cellsOf t = n) (h : DataW.trod enc Tryz.prog W 0 (fun _ => true) true m t cs = some x) : ∃ l : List B, l.length = n ∧ cs = (irow .u8 (bl l)).toList := by
 obtain ⟨xs, m, _, _, hlen, hn, hel⟩ := DataW.trod_array hu h
 rw [hc] at hlen
 obtain ⟨l, hl, hw⟩ := ints_of cs .u8 (fun i hi => by
   have hin : i < n := by omega
   have e1 := hel i hin
   rw [cU86, List.getElem?_eq_getElem (show i < xs.length by omega)] at e1
   obtain ⟨a, q0, _, q2⟩ := DataW.trod_int Tryz.underlying5 e1
   simp only [Nat.mul_one] at q0
   rw [List.drop_eq_getElem_cons hi, List.take_succ_cons, List.take_zero] at q0
   injection q0 with q0 _
   exact ⟨a, q0, q2⟩)
 obtain ⟨bs, rfl, e⟩ := to_bl l (fun z hz => u8_of_wf (hw z hz))
 refine ⟨bs, ?_, by rw [hl]; simp [irow]⟩
 have := congrArg List.length hl
 rw [List.length_map, hlen] at this
 omega
theorem cEv10 : Tryz.prog.cellsOf 48 = 19 := by kernel_rfl
theorem cNo10 : Tryz.prog.cellsOf 46 = 16 := by kernel_rfl
theorem cSl10 : Tryz.prog.cellsOf 28 = 1 := by kernel_rfl
theorem cIn10 : Tryz.prog.cellsOf 3 = 1 := by kernel_rfl
theorem ev_of_trod {H : Type} {enc : TypeId × Value → H} {W : World} {m : Nat} {cs : List Value} {x : DataW H × List MemPlace} (hf : DataW.trod enc Tryz.prog W 0 (fun _ => true) true m 48 cs = some x) (hs : ∀ n ∈ x.1.weights Tryz.prog 48, n ≤ reachBytes) : ∃ (ver : Int) (nonce : List B) (u v : Value) (e d : List B), (-9223372036854775808 ≤ ver ∧ ver ≤ 9223372036854775807) ∧ nonce.length = 16 ∧ cs = (evl ver nonce u v).toList ∧ BysC W u e ∧ BysC W v d := by
 obtain ⟨xs, n, _, rfl, hl, hlen, hfld⟩ := DataW.trod_struct Tryz.underlying48 hf
 rw [cEv10] at hl
 match xs, hlen with
 | [y0, y1, y2, y3], _ =>
 have f0 : DataW.trod enc Tryz.prog W 0 (fun _ => true) true n 3 ((cs.drop 0).take (Tryz.prog.cellsOf 3)) = some y0 := hfld 0 _ rfl
 have f1 : DataW.trod enc Tryz.prog W 0 (fun _ => true) true n 46 ((cs.drop 1).take (Tryz.prog.cellsOf 46)) = some y1 := hfld 1 _ rfl
 have f2 : DataW.trod enc Tryz.prog W 0 (fun _ => true) true n 28 ((cs.drop 17).take (Tryz.prog.cellsOf 28)) = some y2 := hfld 2 _ rfl
 have f3 : DataW.trod enc Tryz.prog W 0 (fun _ => true) true n 28 ((cs.drop 18).take (Tryz.prog.cellsOf 28)) = some y3 := hfld 3 _ rfl
 simp only [cIn10, cNo10, cSl10, List.drop_zero] at f0 f1 f2 f3
 obtain ⟨ver, e0, _, wv⟩ := DataW.trod_int Tryz.underlying3 f0
 obtain ⟨nonce, hn, e1⟩ := cells_bytes6 Tryz.underlying46 cNo10 f1
 obtain ⟨u, e, e2, hE⟩ := bysC_of_trod f2 (fun n hn => hs n (by
   simp only [DataW.weights, Tryz.underlying48]
   exact DataW.weights_mem_each (j := 2) rfl rfl n hn))
 obtain ⟨v, d, e3, hB⟩ := bysC_of_trod f3 (fun n hn => hs n (by
   simp only [DataW.weights, Tryz.underlying48]
   exact DataW.weights_mem_each (j := 3) rfl rfl n hn))
 refine ⟨ver, nonce, u, v, e, d, bounds_i64 wv, hn, ?_, hE, hB⟩
 have h1 := (List.take_append_drop 1 cs).symm
 have h2 := (List.take_append_drop 16 (cs.drop 1)).symm
 have h3 := (List.take_append_drop 1 (cs.drop 17)).symm
 have h4 : (cs.drop 18).take 1 = cs.drop 18 := List.take_of_length_le (by rw [List.length_drop]; omega)
 rw [List.drop_drop] at h2 h3
 rw [e0] at h1
 rw [e1] at h2
 rw [e2] at h3
 rw [e3] at h4
 rw [h1, h2]
 show _ ++ (_ ++ List.drop 17 cs) = _
 rw [h3]
 show _ ++ (_ ++ (_ ++ List.drop 18 cs)) = _
 rw [← h4, evl, Array.toList_append, Array.toList_append]
 rfl
end Go.Proofs.YtleeadbceljfbaaGreatDoor

