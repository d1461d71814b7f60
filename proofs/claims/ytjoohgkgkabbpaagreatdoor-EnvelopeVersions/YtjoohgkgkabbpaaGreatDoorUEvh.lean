import Derived.Test.YtjoohgkgkabbpaaGreatDoorUQd1
import Derived.Test.YtjoohgkgkabbpaaGreatDoorUJre
import Derived.OwnWalk
import Derived.Test.YtjoohgkgkabbpaaGreatDoorUQc0
import Derived.Deep.Cut
import Derived.Deep.RegionHeld3
import Derived.ChangeSlices
import Derived.SizedLaws
import Derived.Test.YtjoohgkgkabbpaaGreatDoorUOpen
import Derived.Test.YtjoohgkgkabbpaaGreatDoorUQb6
import Derived.Lib.SlBytesConst
namespace Go.Proofs.YtjoohgkgkabbpaaGreatDoor
set_option maxRecDepth 100000
open Go Go.RowKit Go.Sort
end Go.Proofs.YtjoohgkgkabbpaaGreatDoor
namespace Go.Proofs.YtjoohgkgkabbpaaGreatDoor
set_option maxRecDepth 100000
open Go Go.RowKit Go.Sort Go.ChangeShapes Go.WideShapes Go.Deep
attribute [local go_sem] setCell_drewN alloc_drewN
theorem eq_non (d : Nat) (x y : List Int) (hx : x.length = 16) (hy : y.length = 16) (W : World) : (Op.equalIn (d + 2) 49 (.agg (irow .u8 x)) (.agg (irow .u8 y))).run Tryz.prog W = .ok (decide (x = y)) W := by
 obtain ⟨i0, hi⟩ := iU8g
 unfold irow
 rw [run_equalIn_array W (d + 1) _ _ Tryz.underlying49 hi, cU8g, run_eqItems_int d W Tryz.underlying5 hi x y (List.range 16) (fun i h => by simp at h; omega)]
 congr 1
 rw [Bool.eq_iff_iff]
 simp only [List.all_eq_true, List.mem_range, beq_iff_eq, decide_eq_true_eq]
 constructor
 ·intro h
  apply List.ext_getElem (by omega)
  intro i h1 h2
  have := h i (by omega)
  simpa [h1, h2] using this
 ·rintro rfl i _
  rfl
theorem infoNn (nonce : List B) (hn : nonce.length = 16) : (Tryz.prog.info? 49).map (·.size) = some (irow .u8 (bl nonce)).size := by
 rw [show (irow .u8 (bl nonce)).size = 16 by simp [irow, bl, hn]]
 kernel_rfl
set_option maxRecDepth 100000 in
set_option maxHeartbeats 8000000 in
theorem l_sameEnv (ver : Int) (nonce hd bd : List B) (hn : nonce.length = 16) (ha : Option Addr) (hc : Nat) (ba : Option Addr) (bc : Nat) (ia : Option Addr) (ic : Nat) (ja : Option Addr) (jc : Nat) (w : World) (h1 : Bys w (.slice ha hd.length hc) (bl hd)) (h2 : Bys w (.slice ba bd.length bc) (bl bd)) (h3 : Bys w (.slice ia hd.length ic) (bl hd)) (h4 : Bys w (.slice ja bd.length jc) (bl bd)) : Calls Tryz.prog 24 #[.agg (evl ver nonce (.slice ha hd.length hc) (.slice ba bd.length bc)), .agg (evl ver nonce (.slice ia hd.length ic) (.slice ja bd.length jc))] w fun e w' => e = .returned (.bool true) ∧ Below w.heap.size w w' := by
 have R0 := hp2_0 w (.cells (evl ver nonce (.slice ha hd.length hc) (.slice ba bd.length bc)) 51) (.cells (evl ver nonce (.slice ia hd.length ic) (.slice ja bd.length jc)) 51)
 have R1 := hp2_1 w (.cells (evl ver nonce (.slice ha hd.length hc) (.slice ba bd.length bc)) 51) (.cells (evl ver nonce (.slice ia hd.length ic) (.slice ja bd.length jc)) 51)
 have hw : Below w.heap.size w ((w.alloc (.cells (evl ver nonce (.slice ha hd.length hc) (.slice ba bd.length bc)) 51)).alloc (.cells (evl ver nonce (.slice ia hd.length ic) (.slice ja bd.length jc)) 51)) := ((Below.refl _ _).alloc (Nat.le_refl _) _).alloc (by simp) _
 replace h1 := h1.keep hw
 replace h2 := h2.keep hw
 replace h3 := h3.keep hw
 replace h4 := h4.keep hw
 have eN := hide (fun W : World => eq_non 9998 (bl nonce) (bl nonce) (by rw [bl_len, hn]) (by rw [bl_len, hn]) W)
 simp only [decide_true] at eN
 have dec1 : (decide (hd = hd)) = true := decide_eq_true rfl
 go_enter Tryz.func24, Tryz.ntmps24
 go_upto_region 1 with (first | (refine wpList_box rfl 51 _ rfl _ rfl (bEv _) ?_) | fail)
 try simp only [size_alloc1, Act.put, List.setIfInBounds_toArray, List.set_cons_succ, List.set_cons_zero]
 generalize (w.alloc (.cells (evl ver nonce (.slice ha hd.length hc) (.slice ba bd.length bc)) 51)).alloc (.cells (evl ver nonce (.slice ia hd.length ic) (.slice ja bd.length jc)) 51) = w0 at *
 have c0 : w0.cell? ⟨w.heap.size, 0, none⟩ = some (.int .i64 ver) := by rw [cell_of_row _ _ _ _ _ _ R0]; exact evl_0 _ _ _ _
 have c1 : w0.cell? ⟨w.heap.size + 1, 0, none⟩ = some (.int .i64 ver) := by rw [cell_of_row _ _ _ _ _ _ R1]; exact evl_0 _ _ _ _
 have c2 : w0.cell? ⟨w.heap.size, 17, none⟩ = some (.slice ha hd.length hc) := by rw [cell_of_row _ _ _ _ _ _ R0]; exact evl_h _ _ hn _ _
 have c3 : w0.cell? ⟨w.heap.size + 1, 17, none⟩ = some (.slice ia hd.length ic) := by rw [cell_of_row _ _ _ _ _ _ R1]; exact evl_h _ _ hn _ _
 have cS := sB_same hd hd w0 _ _ h1 h3
 rw [dec1] at cS
 replace cS := hide cS
 replace dec1 := hide dec1
 go_wp2_with (first | (refine wpList_load_part rfl 49 _ rfl (w.heap.size) 1 rfl 51 (evl ver nonce (.slice ha hd.length hc) (.slice ba bd.length bc)) (0, 0) (irow .u8 (bl nonce)) _ R0 (evl_n _ _ hn _ _) Tryz.underlying49 rfl (infoNn _ hn) ?_) | (refine wpList_load_part rfl 49 _ rfl (w.heap.size + 1) 1 rfl 51 (evl ver nonce (.slice ia hd.length ic) (.slice ja bd.length jc)) (0, 0) (irow .u8 (bl nonce)) _ R1 (evl_n _ _ hn _ _) Tryz.underlying49 rfl (infoNn _ hn) ?_) | (refine wpList_eql rfl 49 49 _ _ rfl (irow .u8 (bl nonce)) (irow .u8 (bl nonce)) rfl rfl (by kernel_rfl) true (eN.out _) ?_) | fail)
 refine cS.out.mono ?_
 rintro e_ w1 ⟨rfl, hb⟩
 have l1 := lt_of_row R1
 replace R0 := keep hb R0
 replace R1 := keep hb R1
 replace h2 := h2.keep hb
 replace h4 := h4.keep hb
 replace hw := Below.after hw hb
 clear hb cS c0 c1 c2 c3
 have c4 : w1.cell? ⟨w.heap.size, 18, none⟩ = some (.slice ba bd.length bc) := by rw [cell_of_row _ _ _ _ _ _ R0]; exact evl_b _ _ hn _ _
 have c5 : w1.cell? ⟨w.heap.size + 1, 18, none⟩ = some (.slice ja bd.length jc) := by rw [cell_of_row _ _ _ _ _ _ R1]; exact evl_b _ _ hn _ _
 have cS := sB_same bd bd w1 _ _ h2 h4
 rw [show (decide (bd = bd)) = true from decide_eq_true rfl] at cS
 replace cS := hide cS
 go_wp2_with (fail)
 refine cS.out.mono ?_
 rintro e_ w2 ⟨rfl, hb⟩
 replace hw := Below.after hw hb
 clear hb cS
 go_wp2_with (fail)
 go_ret
 exact ⟨rfl, hw⟩
theorem to_bl : ∀ (l : List Int), (∀ z ∈ l, 0 ≤ z ∧ z < 256) → ∃ bs : List B, l = bl bs ∧ bs.length = l.length
 | [], _ => ⟨[], rfl, rfl⟩
 | z :: r, h => by
  obtain ⟨n, hn⟩ := Int.eq_ofNat_of_zero_le (h z (by simp)).1
  have hz := (h z (by simp)).2
  obtain ⟨bs, e1, e2⟩ := to_bl r (fun y hy => h y (by simp [hy]))
  refine ⟨BitVec.ofNat 8 n :: bs, ?_, by simp [e2]⟩
  have e3 : z = bv (BitVec.ofNat 8 n) := by unfold bv; rw [BitVec.toNat_ofNat, hn]; omega
  rw [e1]
  show z :: bl bs = bv _ :: bl bs
  rw [← e3]
theorem cells_bytes6 {H : Type} {enc : TypeId × Value → H} {W : World} {m n : Nat} {t : TypeId} {cs : List Value} {x : DataW H × List MemPlace} (hu : Tryz.prog.underlying t = some (.array n 5)) (hc : Tryz.prog.cellsOf t = n) (h : DataW.trod enc Tryz.prog W 0 (fun _ => true) true m t cs = some x) : ∃ l : List B, l.length = n ∧ cs = (irow .u8 (bl l)).toList := by
 obtain ⟨xs, m, _, _, hlen, hn, hel⟩ := DataW.trod_array hu h
 rw [hc] at hlen
 obtain ⟨l, hl, hw⟩ := ints_of cs .u8 (fun i hi => by
  have hin : i < n := by omega
  have e1 := hel i hin
  rw [cU86, List.getElem?_eq_getElem (show i < xs.length by omega)] at e1
  obtain ⟨a, q0, _, q2⟩ := DataW.trod_int Tryz.underlying5 e1
  simp only [Nat.mul_one] at q0
  rw [List.drop_eq_getElem_cons hi, List.take_succ_cons, List.take_zero] at q0
  injection q0 with q0 _
  exact ⟨a, q0, q2⟩)
 obtain ⟨bs, rfl, e⟩ := to_bl l (fun z hz => u8_of_wf (hw z hz))
 refine ⟨bs, ?_, by rw [hl]; simp [irow]⟩
 have := congrArg List.length hl
 rw [List.length_map, hlen] at this
 omega
theorem cEv10 : Tryz.prog.cellsOf 51 = 19 := by kernel_rfl
theorem cNo10 : Tryz.prog.cellsOf 49 = 16 := by kernel_rfl
theorem cSl10 : Tryz.prog.cellsOf 22 = 1 := by kernel_rfl
theorem cIn10 : Tryz.prog.cellsOf 3 = 1 := by kernel_rfl
theorem ev_of_trod {H : Type} {enc : TypeId × Value → H} {W : World} {m : Nat} {cs : List Value} {x : DataW H × List MemPlace} (hf : DataW.trod enc Tryz.prog W 0 (fun _ => true) true m 51 cs = some x) (hs : ∀ n ∈ x.1.weights Tryz.prog 51, n ≤ reachBytes) : ∃ (ver : Int) (nonce : List B) (u v : Value) (e d : List B), (-9223372036854775808 ≤ ver ∧ ver ≤ 9223372036854775807) ∧ nonce.length = 16 ∧ cs = (evl ver nonce u v).toList ∧ BysC W u e ∧ BysC W v d := by
 obtain ⟨xs, n, _, rfl, hl, hlen, hfld⟩ := DataW.trod_struct Tryz.underlying51 hf
 rw [cEv10] at hl
 match xs, hlen with
 | [y0, y1, y2, y3], _ =>
 have f0 : DataW.trod enc Tryz.prog W 0 (fun _ => true) true n 3 ((cs.drop 0).take (Tryz.prog.cellsOf 3)) = some y0 := hfld 0 _ rfl
 have f1 : DataW.trod enc Tryz.prog W 0 (fun _ => true) true n 49 ((cs.drop 1).take (Tryz.prog.cellsOf 49)) = some y1 := hfld 1 _ rfl
 have f2 : DataW.trod enc Tryz.prog W 0 (fun _ => true) true n 22 ((cs.drop 17).take (Tryz.prog.cellsOf 22)) = some y2 := hfld 2 _ rfl
 have f3 : DataW.trod enc Tryz.prog W 0 (fun _ => true) true n 22 ((cs.drop 18).take (Tryz.prog.cellsOf 22)) = some y3 := hfld 3 _ rfl
 simp only [cIn10, cNo10, cSl10, List.drop_zero] at f0 f1 f2 f3
 obtain ⟨ver, e0, _, wv⟩ := DataW.trod_int Tryz.underlying3 f0
 obtain ⟨nonce, hn, e1⟩ := cells_bytes6 Tryz.underlying49 cNo10 f1
 obtain ⟨u, e, e2, hE⟩ := bysC_of_trod f2 (fun n hn => hs n (by
  simp only [DataW.weights, Tryz.underlying51]
  exact DataW.weights_mem_each (j := 2) rfl rfl n hn))
 obtain ⟨v, d, e3, hB⟩ := bysC_of_trod f3 (fun n hn => hs n (by
  simp only [DataW.weights, Tryz.underlying51]
  exact DataW.weights_mem_each (j := 3) rfl rfl n hn))
 refine ⟨ver, nonce, u, v, e, d, bounds_i64 wv, hn, ?_, hE, hB⟩
 have h1 := (List.take_append_drop 1 cs).symm
 have h2 := (List.take_append_drop 16 (cs.drop 1)).symm
 have h3 := (List.take_append_drop 1 (cs.drop 17)).symm
 have h4 : (cs.drop 18).take 1 = cs.drop 18 := List.take_of_length_le (by rw [List.length_drop]; omega)
 rw [List.drop_drop] at h2 h3
 rw [e0] at h1
 rw [e1] at h2
 rw [e2] at h3
 rw [e3] at h4
 rw [h1, h2]
 show _ ++ (_ ++ List.drop 17 cs) = _
 rw [h3]
 show _ ++ (_ ++ (_ ++ List.drop 18 cs)) = _
 rw [← h4, evl, Array.toList_append, Array.toList_append]
 rfl
end Go.Proofs.YtjoohgkgkabbpaaGreatDoor
namespace Go.Proofs.YtjoohgkgkabbpaaGreatDoor
set_option maxRecDepth 100000
open Go Go.RowKit Go.Sort
attribute [local go_sem] setCell_drewN alloc_drewN
def vP (d : List B) : Int := match paF d with | none => (riV d : Int) | some _ => 0
def nP (d : List B) : List B := match paF d with | none => (gf (dfs (dwh d)) 1).dat | some _ => n16
def hP (d : List B) : List B := match paF d with | none => (gf (dfs (dwh d)) 2).dat | some _ => []
def bP (d : List B) : List B := match paF d with | none => (gf (dfs (dwh d)) 3).dat | some _ => []
def fP (d : List B) : Array Value := fPk (paF d)
theorem nP_len (d : List B) : (nP d).length = 16 := by
 unfold nP
 cases h : paF d with
 | some x => exact n16_len
 | none =>
  obtain ⟨nonce, hd, bd, _, hn, hfs, _, _, _⟩ := back10 h
  simp only
  rw [hfs]
  exact hn
theorem paF_why {d : List B} {x : Flt3} (h : paF d = some x) : x.why ≠ 0 := by
 unfold paF at h
 split at h
 ·rename_i h0
  injection h with h
  subst h
  exact h0
 ·split at h
  ·rename_i hd
   injection h with h
   subst h
   exact dec8_why hd
  ·split at h
   ·cases h
   ·injection h with h
    subst h
    decide
theorem a_ParseEF (d : List B) (b : Value) (w : World) (hB : BysB w b d) (hcap : ∀ a l c, b = .slice a l c → l ≤ c) : Calls Tryz.prog 22 #[b] w fun e w' => ∃ ha hc ba bc E, e = .returned (.tuple #[.agg (evl (vP d) (nP d) (.slice ha (hP d).length hc) (.slice ba (bP d).length bc)), E]) ∧ Own w' w.heap.size (.slice ha (hP d).length hc) (hP d) ∧ Own w' w.heap.size (.slice ba (bP d).length bc) (bP d) ∧ (∀ k, (Value.slice ha (hP d).length hc).ownBlock = some k → (Value.slice ba (bP d).length bc).ownBlock ≠ some k) ∧ Fy w' w.heap.size E (fP d) ∧ Below w.heap.size w w' := by
 refine (a_ParseE d b w hB hcap).mono ?_
 rintro e w' ⟨h, hb⟩
 unfold PrE at h
 unfold vP nP hP bP fP
 cases hd : paF d with
 | none =>
  rw [hd] at h
  obtain ⟨ha, hc, ba, bc, h1, h2, h3, h4⟩ := h
  exact ⟨ha, hc, ba, bc, _, h1, h2, h3, h4, .inl ⟨rfl, rfl⟩, hb⟩
 | some x =>
  rw [hd] at h
  obtain ⟨g, h1, h2, h3⟩ := h
  exact ⟨none, 0, none, 0, _, h1, own_none10 _ _, own_none10 _ _, fun k hk => (by cases hk), .inr ⟨g, x, h2, rfl, rfl, paF_why hd, h3⟩, hb⟩
end Go.Proofs.YtjoohgkgkabbpaaGreatDoor
namespace Go.Proofs.YtjoohgkgkabbpaaGreatDoor
set_option maxRecDepth 100000
open Go Go.RowKit Go.Sort
theorem first10 {v : Nat} (hv : v < 18446744073709551616) {t : List B} (h0 : der (dwh (8#8 :: (en v ++ t))) = 0) : (dfs (dwh (8#8 :: (en v ++ t)))).length ≠ 0 ∧ gf (dfs (dwh (8#8 :: (en v ++ t)))) 0 = ⟨1, 0, v, []⟩ := by
 obtain ⟨he, ho⟩ := dec_enc h0
 have hb : ebs (dfs (dwh (8#8 :: (en v ++ t)))) = en 8 ++ (en v ++ t) := by
  unfold eout at ho
  rw [if_pos he] at ho
  rw [ho, en_lo (show 8 < 128 by decide)]
  rfl
 have hal := ech_all _ 0 (by decide) (eer_ok.1 he).2.1
 have hok := dfs_oks (8#8 :: (en v ++ t)) 0
 clear he ho h0
 generalize dfs (dwh (8#8 :: (en v ++ t))) = fs at *
 cases fs with
 | nil =>
  rw [en_lo (show 8 < 128 by decide)] at hb
  cases hb
 | cons f r =>
  obtain ⟨a1, a2, a3, a4⟩ := hal f (by simp)
  have hnum : f.num < 18446744073709551616 := (hok (by simp)).1
  rw [ebs, fby, List.append_assoc] at hb
  obtain ⟨no, ty, num, dat⟩ := f
  have a1' : 0 ≤ no := a1
  have a2' : no ≤ 536870911 := a2
  have a3' : ty = 0 ∨ ty = 1 ∨ ty = 2 ∨ ty = 5 := a3
  have hf : fhd ⟨no, ty, num, dat⟩ = 8 * no.toNat + ty.toNat := rfl
  obtain ⟨q1, q2⟩ := en_inj (by rw [hf]; omega) (by decide) hb
  rw [hf] at q1
  obtain rfl : ty = 0 := by omega
  obtain rfl : no = 1 := by omega
  have a4' : dat = [] := by
   unfold fits at a4
   simp at a4
   exact a4
  subst a4'
  have q3 : en num ++ ebs r = en v ++ t := q2
  obtain ⟨rfl, _⟩ := en_inj hnum hv q3
  exact ⟨by simp, rfl⟩
theorem vers_bad {v : Nat} (hv : v < 18446744073709551616) (hk : known10 v = false) {t : List B} (h0 : der (dwh (8#8 :: (en v ++ t))) = 0) : paF (8#8 :: (en v ++ t)) = some ⟨0, 0, 100⟩ := by
 obtain ⟨h1, h2⟩ := first10 hv h0
 have hV : riV (8#8 :: (en v ++ t)) = v := by unfold riV; rw [h2]
 have hE : riE (8#8 :: (en v ++ t)) = 100 := by
  unfold riE
  rw [hV, h0, h2, if_neg (by simp), if_neg (by show ¬ (_ ∨ (1 : Int) ≠ 1); simp only [ne_eq, not_true_eq_false, or_false]; exact h1), if_neg (by show ¬ (0 : Int) ≠ 0; simp), if_neg (by rw [hk]; simp)]
 have hA : riA (8#8 :: (en v ++ t)) = 0 := by unfold riA; rw [h0]; rfl
 unfold paF
 rw [if_pos (by rw [hE]; decide), hA, hE]
def etl (nonce hd bd : List B) : List B := ebs [⟨2, 2, 0, nonce⟩, ⟨3, 2, 0, hd⟩, ⟨4, 2, 0, bd⟩]
theorem vers_two {v u : Nat} {nonce hd bd : List B} (hk : known10 v = true) (hu : known10 u = true) (hn : nonce.length = 16) (h : pk10 v hd.length bd.length = none) : eout (efs v nonce hd bd) = 8#8 :: (en v ++ etl nonce hd bd) ∧ der (dwh (8#8 :: (en u ++ etl nonce hd bd))) = 0 ∧ dfs (dwh (8#8 :: (en u ++ etl nonce hd bd))) = efs u nonce hd bd ∧ riV (8#8 :: (en u ++ etl nonce hd bd)) = u ∧ (en v).length = 1 ∧ (u = v → paF (8#8 :: (en u ++ etl nonce hd bd)) = none) := by
 obtain ⟨h1, h2, h3, h4⟩ := pk_ok h
 have hv : v < 128 := by rcases known_lt10 hk with rfl | rfl <;> decide
 have hu1 : u < 128 := by rcases known_lt10 hu with rfl | rfl <;> decide
 have hb : bd.length ≤ 2097168 := Nat.le_trans h3 (mo_le v)
 have e0 := efs_eer hv hn h1 hb
 have e1 : eout (efs v nonce hd bd) = ebs (efs v nonce hd bd) := by unfold eout; rw [if_pos e0]
 have e2 : ∀ x, ebs (efs x nonce hd bd) = 8#8 :: (en x ++ etl nonce hd bd) := fun x => by
  show (en 8 ++ en x) ++ etl nonce hd bd = _
  rw [en_lo (show 8 < 128 by decide)]
  rfl
 obtain ⟨d1, d2, d3⟩ := enc_dec (efs_eer hu1 hn h1 hb) (efs_fok hu1 hn h1 hb)
 rw [e2] at d1 d2 d3
 refine ⟨by rw [e1, e2], d1, d3, by unfold riV; rw [d3]; rfl, by rw [en_lo hv]; rfl, fun e => ?_⟩
 subst e
 have := (there10 hk hn h).2.2.1
 rw [e1, e2] at this
 exact this
end Go.Proofs.YtjoohgkgkabbpaaGreatDoor
namespace Go.Proofs.YtjoohgkgkabbpaaGreatDoor
set_option maxRecDepth 100000
open Go Go.RowKit Go.Sort
attribute [local go_sem] setCell_drewN alloc_drewN
theorem hx_make {a : Act} {o : Oper} (t : TypeId) (x y : Operand) (ho : o.op = .makeSlice t x y) (n : Nat) (hx : a.eval x = .int .i64 (n : Int)) (hy : a.eval y = .int .i64 (n : Int)) (W : World) (v : Value) (W' : World) (h : (Instr.makeSlice t (.int .i64 (n : Int)) (.int .i64 (n : Int))).run Tryz.prog W = .ok v W') : (execOp a.eval o).run Tryz.prog W = .ok (.value v) W' := by
 unfold execOp
 simp only [ho, hx, hy, Sem.run_bind, h]
 rfl
theorem hi_bys (W : World) : BysB (W.alloc (.cells #[.int .u8 104, .int .u8 105] 5 (2, 3))) (.slice (some ⟨W.heap.size, 0, none⟩) 2 2) [104#8, 105#8] := ⟨bys_rowF (l := bl [104#8, 105#8]) (hp1_0 W _) (by decide) (bl_bnd _) rfl, by decide, fun a l c h h2 => by cases h; cases h2⟩
theorem a_ParseThere {v : Nat} {nonce hd bd : List B} (hk : known10 v = true) (hn : nonce.length = 16) (h : pk10 v hd.length bd.length = none) (u : Value) (w : World) (hB : BysB w u (eout (efs v nonce hd bd))) (hcap : ∀ a l c, u = .slice a l c → l ≤ c) : Calls Tryz.prog 22 #[u] w fun e w' => (∃ ha hc ba bc, e = .returned (.tuple #[.agg (evl (v : Int) nonce (.slice ha hd.length hc) (.slice ba bd.length bc)), .nilIface]) ∧ Own w' w.heap.size (.slice ha hd.length hc) hd ∧ Own w' w.heap.size (.slice ba bd.length bc) bd) ∧ Below w.heap.size w w' := by
 obtain ⟨h1, h2, h3, _⟩ := there10 hk hn h
 refine (a_ParseE _ u w hB hcap).mono ?_
 rintro e w' ⟨hP, hb⟩
 unfold PrE at hP
 rw [h3, h1, h2] at hP
 obtain ⟨ha, hc, ba, bc, e1, e2, e3, _⟩ := hP
 exact ⟨⟨ha, hc, ba, bc, e1, e2, e3⟩, hb⟩
def z60 : List B := List.replicate 60 0#8
def z80 : List B := List.replicate 80 0#8
theorem bkd_6 : bkd (dg 1) (4 + 2) = 64 := by decide +kernel
theorem bkd_64e : bkd (dg 1) 64 = 64 := by decide +kernel
theorem pk_live : pk10 1 60 80 = none := pk_of rfl (by decide) (by decide) bkd_64e
theorem zr_z60 : irow .u8 (zr 60) = irow .u8 (bl z60) := by rw [show zr 60 = bl z60 by decide]
theorem zr_z80 : irow .u8 (zr 80) = irow .u8 (bl z80) := by rw [show zr 80 = bl z80 by decide]
set_option maxRecDepth 100000 in
set_option maxHeartbeats 8000000 in
theorem l_lives (w : World) (hE : Ety w) : Calls Tryz.prog 25 #[] w fun e w' => e = .returned (.bool true) ∧ Below w.heap.size w w' := by
 have hz : bke 1 (([104#8, 105#8] : List B).length : Int) = 0 := by decide
 obtain ⟨pb1, pb2, pb3⟩ := pad_back hz
 obtain ⟨LB, hLB⟩ : ∃ L, pdr 1 [104#8, 105#8] = L := ⟨_, rfl⟩
 have hl64 : Hid (LB.length = 64) := hide (by rw [← hLB, pb3]; exact bkd_6)
 have hup : Hid (upe 1 LB = 0) := hide (by rw [← hLB]; exact pb1)
 have hur : Hid (upr 1 LB = [104#8, 105#8]) := hide (by rw [← hLB]; exact pb2)
 have hlen : Hid ((eout (efs 1 n16 z60 z80)).length = 164) := hide (by
  rw [(there10 (v := 1) (nonce := n16) (hd := z60) (bd := z80) rfl n16_len pk_live).2.2.2.1, show z80.length = 80 from rfl, en_l1 (by decide)])
 clear pb1 pb2 pb3
 have cA := hide (a_Pad 1 1 rfl (by decide) [104#8, 105#8] (w.alloc (.cells #[.int .u8 104, .int .u8 105] 5 (2, 3))) _ (hi_bys w))
 rw [hz, hLB] at cA
 clear hz hLB
 have hw : Below w.heap.size w (w.alloc (.cells #[.int .u8 104, .int .u8 105] 5 (2, 3))) := (Below.refl _ _).alloc (Nat.le_refl _) _
 replace hE := hE.keep hw rfl
 have kc := fun (W : World) (C : Array Value) (n c : Nat) => Go.Lib.run_convert_bytes_const (P := Tryz.prog) W 22 5 C n c Tryz.underlying22 Tryz.underlying5
 go_enter Tryz.func25, Tryz.ntmps25
 go_wp2_with (fail)
 refine cA.out.mono ?_
 rintro e_ x0 ⟨u, rfl, hO, hb_⟩
 obtain ⟨ua, uc, rfl⟩ : ∃ a c, u = .slice a 64 c := by
  obtain ⟨a, c, e⟩ := slen_own hO
  exact ⟨a, c, by rw [e, hl64.out]⟩
 replace hE := hE.keep hb_ rfl
 replace hw := Below.after hw hb_
 clear cA hb_ kc
 generalize w.alloc (.cells #[.int .u8 104, .int .u8 105] 5 (2, 3)) = w0 at *
 go_upto_region 4 with (fail)
 have hbd : Below x0.heap.size x0 x0.drew := below_drN (Below.refl _ _) 1
 replace hO := hO.keep hbd
 replace hE := hE.keep hbd rfl
 replace hw := Below.after hw hbd
 clear hbd
 refine wp_region_noPanic ?_
 refine wp_region_held (S := fun _ : World => True) (by kernel_rfl) ?_
 change wpAnyH _ _ _ _ _ _ _ _ (World.drew _)
 generalize x0.drew = x1 at *
 refine wpAnyH_two (j := 0) (k := 1) (fuel := 8) (by kernel_rfl) rfl rfl (by kernel_rfl) (by kernel_rfl) (fun K_ hK_ => ?_) (fun K_ hK_ => ?_)
 ·refine wp_val_op (.slice (some ⟨x1.heap.size, 0, none⟩) 60 60) (w' := x1.alloc (.cells (irow .u8 (zr 60)) 5)) (hx_make 22 _ _ rfl 60 rfl rfl x1 _ _ (make_lc 60 60 (Nat.le_refl _) (by decide) x1)) ?_
  have RH := hp1_0 x1 (.cells (irow .u8 (zr 60)) 5)
  have hb_ : Below x1.heap.size x1 (x1.alloc (.cells (irow .u8 (zr 60)) 5)) := (Below.refl _ _).alloc (Nat.le_refl _) _
  replace hO := hO.keep hb_
  replace hE := hE.keep hb_ rfl
  replace hw := Below.after hw hb_
  clear hb_
  refine hK_ _ _ trivial ?_
  simp only [Act.put, List.getElem_toArray, List.getElem_cons_zero, List.setIfInBounds_toArray, List.set_cons_succ, List.set_cons_zero]
  clear hK_
  generalize x1.alloc (.cells (irow .u8 (zr 60)) 5) = m1 at *
  generalize x1.heap.size = gh at *
  refine wpAnyH_one (k := 1) (fuel := 7) (by kernel_rfl) rfl (by kernel_rfl) (fun K_ hK_ => ?_)
  refine wp_val_op (.slice (some ⟨m1.heap.size, 0, none⟩) 80 80) (w' := m1.alloc (.cells (irow .u8 (zr 80)) 5)) (hx_make 22 _ _ rfl 80 rfl rfl m1 _ _ (make_lc 80 80 (Nat.le_refl _) (by decide) m1)) ?_
  have RB := hp1_0 m1 (.cells (irow .u8 (zr 80)) 5)
  have hb_ : Below m1.heap.size m1 (m1.alloc (.cells (irow .u8 (zr 80)) 5)) := (Below.refl _ _).alloc (Nat.le_refl _) _
  replace hO := hO.keep hb_
  replace RH := keep hb_ RH
  replace hE := hE.keep hb_ rfl
  replace hw := Below.after hw hb_
  clear hb_
  refine hK_ _ _ trivial ?_
  simp only [Act.put, List.getElem_toArray, List.getElem_cons_succ, List.getElem_cons_zero, List.setIfInBounds_toArray, List.set_cons_succ, List.set_cons_zero]
  clear hK_
  generalize m1.alloc (.cells (irow .u8 (zr 80)) 5) = m2 at *
  generalize m1.heap.size = gb_ at *
  refine wpAnyH_take (i := 2) (v := .agg (evl 1 n16 (.slice (some ⟨gh, 0, none⟩) 60 60) (.slice (some ⟨gb_, 0, none⟩) 80 80))) rfl (by kernel_rfl) (by kernel_rfl) (by kernel_rfl) (fun _ _ _ h => h) (Or.inl ⟨by rfl, ?y1⟩) (trivial) ?r1
  case y1 =>
   intro w_ hS_
   simp only [List.getElem_toArray, List.getElem_cons_succ, List.getElem_cons_zero]
   exact run_build_op 51 _ rfl [(0, .int .i64 1), (2, .slice (some ⟨gh, 0, none⟩) 60 60), (3, .slice (some ⟨gb_, 0, none⟩) 80 80)] rfl _ (builtE3 1 _ 60 60 _ 80 80)
  simp only [Act.put, List.getElem_toArray, List.getElem_cons_succ, List.getElem_cons_zero, List.setIfInBounds_toArray, List.set_cons_succ, List.set_cons_zero]
  refine wpAnyH_one (k := 3) (fuel := 5) (by kernel_rfl) rfl (by kernel_rfl) (fun K_ hK_ => ?_)
  rw [zr_z60] at RH
  rw [zr_z80] at RB
  have cP := a_PackE1 n16 n16_len (some ⟨gh, 0, none⟩) 60 60 (some ⟨gb_, 0, none⟩) 80 80 z60 z80 m2 hE (row_bysB RH rfl (by decide) 60) (row_bysB RB rfl (by decide) 80) rfl rfl (by decide) (by decide)
  rw [pk_live] at cP
  refine wp_call_ex (R := fun v w' => ∃ u, v = .tuple #[u, .nilIface] ∧ Own w' m2.heap.size u (eout (efs 1 n16 z60 z80)) ∧ Below m2.heap.size m2 w') (by kernel_rfl) (cP.mono (fun e w' h => (by obtain ⟨⟨u, e1, e2⟩, e3⟩ := h; exact ⟨_, e1, u, rfl, e2, e3⟩))) (fun v_ m3 hX_ => ?_)
  obtain ⟨up, rfl, hU, hb_⟩ := hX_
  clear cP
  replace hO := hO.keep hb_
  replace RH := keep hb_ RH
  replace RB := keep hb_ RB
  replace hE := hE.keep hb_ rfl
  replace hw := Below.after hw hb_
  clear hb_ RH RB
  refine hK_ _ _ trivial ?_
  simp only [Act.put, List.getElem_toArray, List.getElem_cons_succ, List.getElem_cons_zero, List.setIfInBounds_toArray, List.set_cons_succ, List.set_cons_zero]
  clear hK_
  refine wpAnyH_take (i := 4) (v := ?v2) rfl (by kernel_rfl) (by kernel_rfl) (by kernel_rfl) (fun _ _ _ h => h) (Or.inl ⟨by rfl, ?y2⟩) (trivial) ?r2
  case y2 =>
   intro w_ hS_
   go_simp
   try with_reducible rfl
  simp only [Act.put, List.getElem_toArray, List.getElem_cons_succ, List.getElem_cons_zero, List.setIfInBounds_toArray, List.set_cons_succ, List.set_cons_zero]
  refine wpAnyH_take (i := 5) (v := ?v3) rfl (by kernel_rfl) (by kernel_rfl) (by kernel_rfl) (fun _ _ _ h => h) (Or.inl ⟨by rfl, ?y3⟩) (trivial) ?r3
  case y3 =>
   intro w_ hS_
   go_simp
   try with_reducible rfl
  simp only [Act.put, List.getElem_toArray, List.getElem_cons_succ, List.getElem_cons_zero, List.setIfInBounds_toArray, List.set_cons_succ, List.set_cons_zero]
  refine wpAnyH_take (i := 6) (v := ?v4) rfl (by kernel_rfl) (by kernel_rfl) (by kernel_rfl) (fun _ _ _ h => h) (Or.inl ⟨by rfl, ?y4⟩) (trivial) ?r4
  case y4 =>
   intro w_ hS_
   go_simp
   try with_reducible rfl
  simp only [Act.put, List.getElem_toArray, List.getElem_cons_succ, List.getElem_cons_zero, List.setIfInBounds_toArray, List.set_cons_succ, List.set_cons_zero]
  refine wpAnyH_take (i := 7) (v := ?v5) rfl (by kernel_rfl) (by kernel_rfl) (by kernel_rfl) (fun _ _ _ h => h) (Or.inl ⟨by rfl, ?y5⟩) (trivial) ?r5
  case y5 =>
   intro w_ hS_
   go_simp
   try with_reducible rfl
  simp only [Act.put, List.getElem_toArray, List.getElem_cons_succ, List.getElem_cons_zero, List.setIfInBounds_toArray, List.set_cons_succ, List.set_cons_zero]
  refine wpAnyH_take (i := 8) (v := ?v6) rfl (by kernel_rfl) (by kernel_rfl) (by kernel_rfl) (fun _ _ _ h => h) (Or.inl ⟨by rfl, ?y6⟩) (trivial) ?r6
  case y6 =>
   intro w_ hS_
   go_simp
   try with_reducible rfl
  simp only [Act.put, List.getElem_toArray, List.getElem_cons_succ, List.getElem_cons_zero, List.setIfInBounds_toArray, List.set_cons_succ, List.set_cons_zero]
  refine wpAnyH_done (by kernel_rfl) ?_ _
  refine NoPanic.normal ?_
  obtain ⟨pa, pc, rfl⟩ : ∃ pa pc, up = .slice pa 164 pc := by
   obtain ⟨a, c, e⟩ := slen_own hU
   exact ⟨a, c, by rw [e, hlen.out]⟩
  have hcp := own_cap hU
  have hUb := hU.bysB (by rw [hlen.out]; decide)
  have cQ := hide (a_ParseThere (v := 1) (hd := z60) (bd := z80) rfl n16_len pk_live (.slice pa 164 pc) m3 hUb hcp)
  clear hcp hUb
  go_wp2_with (fail)
  refine cQ.out.mono ?_
  rintro e_ p1 ⟨⟨ha, hc, ba, bc, rfl, _, _⟩, hb_⟩
  replace hO := hO.keep hb_
  replace hw := Below.after hw hb_
  clear cQ hb_ hE hU
  have z_ := hp1_0 p1 (.cells (evl 0 n16 (.slice none 0 0) (.slice none 0 0)) 51)
  go_wp2_with (first | (refine wpList_alloc rfl 51 rfl (evl 0 n16 (.slice none 0 0) (.slice none 0 0)) zEnv ?_) | (refine wpList_store_row rfl 51 _ _ rfl p1.heap.size (evl 1 n16 (.slice ha 60 hc) (.slice ba 80 bc)) rfl rfl 51 _ z_ (evl_info _ _ n16_len _ _) (by rw [evl_size _ _ n16_len, evl_size _ _ n16_len]) (evl_one _ _ _ _ _ _ _ _) ?_; refine wpList_stay ?_) | fail)
  unfold WpStay
  try simp only [Act.put, List.setIfInBounds_toArray, List.set_cons_succ, List.set_cons_zero]
  have RO := setRow_heap (p1.alloc (.cells (evl 0 n16 (.slice none 0 0) (.slice none 0 0)) 51)) p1.heap.size _ (evl 1 n16 (.slice ha 60 hc) (.slice ba 80 bc)) _ _ z_
  have hb_ : Below p1.heap.size p1 ((p1.alloc (.cells (evl 0 n16 (.slice none 0 0) (.slice none 0 0)) 51)).setRow p1.heap.size (evl 1 n16 (.slice ha 60 hc) (.slice ba 80 bc))) := below_setRow ((Below.refl _ _).alloc (Nat.le_refl _) _) (Nat.le_refl _) _
  clear z_
  replace hO := hO.keep hb_
  replace hw := Below.after hw hb_
  clear hb_
  generalize (p1.alloc (.cells (evl 0 n16 (.slice none 0 0) (.slice none 0 0)) 51)).setRow p1.heap.size (evl 1 n16 (.slice ha 60 hc) (.slice ba 80 bc)) = p2 at *
  generalize p1.heap.size = gO at *
  have cU := hide (a_Unpad 1 1 rfl (by decide) LB p2 (.slice ua 64 uc) (hO.bysB (by rw [hl64.out]; decide)) (own_cap hO))
  rw [hup.out, hur.out] at cU
  go_wp2_with (fail)
  refine cU.out.mono ?_
  rintro e_ p3 ⟨pl, rfl, hQ, hb_⟩
  obtain ⟨qa, qc, rfl⟩ : ∃ a c, pl = .slice a 2 c := slen_own hQ
  have cv := conv_bys10 hQ.bys
  rw [show strOfNums (bl [104#8, 105#8]) = { data := #[104, 105] } by decide] at cv
  have lO := lt_of_row RO
  replace RO := keep hb_ RO
  replace hw := Below.after hw hb_
  clear cU hb_ hO hQ
  have c18 : p3.cell? ⟨gO, 18, none⟩ = some (.slice ba 80 bc) := by rw [cell_of_row _ _ _ _ _ _ RO]; exact evl_b _ _ n16_len _ _
  have n1 := eql_nilE
  go_wp2_with (fail)
  go_ret
  exact ⟨rfl, hw⟩
 ·refine wp_val_op (.slice (some ⟨x1.heap.size, 0, none⟩) 80 80) (w' := x1.alloc (.cells (irow .u8 (zr 80)) 5)) (hx_make 22 _ _ rfl 80 rfl rfl x1 _ _ (make_lc 80 80 (Nat.le_refl _) (by decide) x1)) ?_
  have RB := hp1_0 x1 (.cells (irow .u8 (zr 80)) 5)
  have hb_ : Below x1.heap.size x1 (x1.alloc (.cells (irow .u8 (zr 80)) 5)) := (Below.refl _ _).alloc (Nat.le_refl _) _
  replace hO := hO.keep hb_
  replace hE := hE.keep hb_ rfl
  replace hw := Below.after hw hb_
  clear hb_
  refine hK_ _ _ trivial ?_
  simp only [Act.put, List.getElem_toArray, List.getElem_cons_succ, List.getElem_cons_zero, List.setIfInBounds_toArray, List.set_cons_succ, List.set_cons_zero]
  clear hK_
  generalize x1.alloc (.cells (irow .u8 (zr 80)) 5) = m4 at *
  generalize x1.heap.size = gb_ at *
  refine wpAnyH_one (k := 0) (fuel := 7) (by kernel_rfl) rfl (by kernel_rfl) (fun K_ hK_ => ?_)
  refine wp_val_op (.slice (some ⟨m4.heap.size, 0, none⟩) 60 60) (w' := m4.alloc (.cells (irow .u8 (zr 60)) 5)) (hx_make 22 _ _ rfl 60 rfl rfl m4 _ _ (make_lc 60 60 (Nat.le_refl _) (by decide) m4)) ?_
  have RH := hp1_0 m4 (.cells (irow .u8 (zr 60)) 5)
  have hb_ : Below m4.heap.size m4 (m4.alloc (.cells (irow .u8 (zr 60)) 5)) := (Below.refl _ _).alloc (Nat.le_refl _) _
  replace hO := hO.keep hb_
  replace RB := keep hb_ RB
  replace hE := hE.keep hb_ rfl
  replace hw := Below.after hw hb_
  clear hb_
  refine hK_ _ _ trivial ?_
  simp only [Act.put, List.getElem_toArray, List.getElem_cons_zero, List.setIfInBounds_toArray, List.set_cons_succ, List.set_cons_zero]
  clear hK_
  generalize m4.alloc (.cells (irow .u8 (zr 60)) 5) = m5 at *
  generalize m4.heap.size = gh at *
  refine wpAnyH_take (i := 2) (v := .agg (evl 1 n16 (.slice (some ⟨gh, 0, none⟩) 60 60) (.slice (some ⟨gb_, 0, none⟩) 80 80))) rfl (by kernel_rfl) (by kernel_rfl) (by kernel_rfl) (fun _ _ _ h => h) (Or.inl ⟨by rfl, ?y7⟩) (trivial) ?r7
  case y7 =>
   intro w_ hS_
   simp only [List.getElem_toArray, List.getElem_cons_succ, List.getElem_cons_zero]
   exact run_build_op 51 _ rfl [(0, .int .i64 1), (2, .slice (some ⟨gh, 0, none⟩) 60 60), (3, .slice (some ⟨gb_, 0, none⟩) 80 80)] rfl _ (builtE3 1 _ 60 60 _ 80 80)
  simp only [Act.put, List.getElem_toArray, List.getElem_cons_succ, List.getElem_cons_zero, List.setIfInBounds_toArray, List.set_cons_succ, List.set_cons_zero]
  refine wpAnyH_one (k := 3) (fuel := 5) (by kernel_rfl) rfl (by kernel_rfl) (fun K_ hK_ => ?_)
  rw [zr_z60] at RH
  rw [zr_z80] at RB
  have cP := a_PackE1 n16 n16_len (some ⟨gh, 0, none⟩) 60 60 (some ⟨gb_, 0, none⟩) 80 80 z60 z80 m5 hE (row_bysB RH rfl (by decide) 60) (row_bysB RB rfl (by decide) 80) rfl rfl (by decide) (by decide)
  rw [pk_live] at cP
  refine wp_call_ex (R := fun v w' => ∃ u, v = .tuple #[u, .nilIface] ∧ Own w' m5.heap.size u (eout (efs 1 n16 z60 z80)) ∧ Below m5.heap.size m5 w') (by kernel_rfl) (cP.mono (fun e w' h => (by obtain ⟨⟨u, e1, e2⟩, e3⟩ := h; exact ⟨_, e1, u, rfl, e2, e3⟩))) (fun v_ m6 hX_ => ?_)
  obtain ⟨up, rfl, hU, hb_⟩ := hX_
  clear cP
  replace hO := hO.keep hb_
  replace RB := keep hb_ RB
  replace RH := keep hb_ RH
  replace hE := hE.keep hb_ rfl
  replace hw := Below.after hw hb_
  clear hb_ RH RB
  refine hK_ _ _ trivial ?_
  simp only [Act.put, List.getElem_toArray, List.getElem_cons_succ, List.getElem_cons_zero, List.setIfInBounds_toArray, List.set_cons_succ, List.set_cons_zero]
  clear hK_
  refine wpAnyH_take (i := 4) (v := ?v8) rfl (by kernel_rfl) (by kernel_rfl) (by kernel_rfl) (fun _ _ _ h => h) (Or.inl ⟨by rfl, ?y8⟩) (trivial) ?r8
  case y8 =>
   intro w_ hS_
   go_simp
   try with_reducible rfl
  simp only [Act.put, List.getElem_toArray, List.getElem_cons_succ, List.getElem_cons_zero, List.setIfInBounds_toArray, List.set_cons_succ, List.set_cons_zero]
  refine wpAnyH_take (i := 5) (v := ?v9) rfl (by kernel_rfl) (by kernel_rfl) (by kernel_rfl) (fun _ _ _ h => h) (Or.inl ⟨by rfl, ?y9⟩) (trivial) ?r9
  case y9 =>
   intro w_ hS_
   go_simp
   try with_reducible rfl
  simp only [Act.put, List.getElem_toArray, List.getElem_cons_succ, List.getElem_cons_zero, List.setIfInBounds_toArray, List.set_cons_succ, List.set_cons_zero]
  refine wpAnyH_take (i := 6) (v := ?v10) rfl (by kernel_rfl) (by kernel_rfl) (by kernel_rfl) (fun _ _ _ h => h) (Or.inl ⟨by rfl, ?y10⟩) (trivial) ?r10
  case y10 =>
   intro w_ hS_
   go_simp
   try with_reducible rfl
  simp only [Act.put, List.getElem_toArray, List.getElem_cons_succ, List.getElem_cons_zero, List.setIfInBounds_toArray, List.set_cons_succ, List.set_cons_zero]
  refine wpAnyH_take (i := 7) (v := ?v11) rfl (by kernel_rfl) (by kernel_rfl) (by kernel_rfl) (fun _ _ _ h => h) (Or.inl ⟨by rfl, ?y11⟩) (trivial) ?r11
  case y11 =>
   intro w_ hS_
   go_simp
   try with_reducible rfl
  simp only [Act.put, List.getElem_toArray, List.getElem_cons_succ, List.getElem_cons_zero, List.setIfInBounds_toArray, List.set_cons_succ, List.set_cons_zero]
  refine wpAnyH_take (i := 8) (v := ?v12) rfl (by kernel_rfl) (by kernel_rfl) (by kernel_rfl) (fun _ _ _ h => h) (Or.inl ⟨by rfl, ?y12⟩) (trivial) ?r12
  case y12 =>
   intro w_ hS_
   go_simp
   try with_reducible rfl
  simp only [Act.put, List.getElem_toArray, List.getElem_cons_succ, List.getElem_cons_zero, List.setIfInBounds_toArray, List.set_cons_succ, List.set_cons_zero]
  refine wpAnyH_done (by kernel_rfl) ?_ _
  refine NoPanic.normal ?_
  obtain ⟨pa, pc, rfl⟩ : ∃ pa pc, up = .slice pa 164 pc := by
   obtain ⟨a, c, e⟩ := slen_own hU
   exact ⟨a, c, by rw [e, hlen.out]⟩
  have hcp := own_cap hU
  have hUb := hU.bysB (by rw [hlen.out]; decide)
  have cQ := hide (a_ParseThere (v := 1) (hd := z60) (bd := z80) rfl n16_len pk_live (.slice pa 164 pc) m6 hUb hcp)
  clear hcp hUb
  go_wp2_with (fail)
  refine cQ.out.mono ?_
  rintro e_ p1 ⟨⟨ha, hc, ba, bc, rfl, _, _⟩, hb_⟩
  replace hO := hO.keep hb_
  replace hw := Below.after hw hb_
  clear cQ hb_ hE hU
  have z_ := hp1_0 p1 (.cells (evl 0 n16 (.slice none 0 0) (.slice none 0 0)) 51)
  go_wp2_with (first | (refine wpList_alloc rfl 51 rfl (evl 0 n16 (.slice none 0 0) (.slice none 0 0)) zEnv ?_) | (refine wpList_store_row rfl 51 _ _ rfl p1.heap.size (evl 1 n16 (.slice ha 60 hc) (.slice ba 80 bc)) rfl rfl 51 _ z_ (evl_info _ _ n16_len _ _) (by rw [evl_size _ _ n16_len, evl_size _ _ n16_len]) (evl_one _ _ _ _ _ _ _ _) ?_; refine wpList_stay ?_) | fail)
  unfold WpStay
  try simp only [Act.put, List.setIfInBounds_toArray, List.set_cons_succ, List.set_cons_zero]
  have RO := setRow_heap (p1.alloc (.cells (evl 0 n16 (.slice none 0 0) (.slice none 0 0)) 51)) p1.heap.size _ (evl 1 n16 (.slice ha 60 hc) (.slice ba 80 bc)) _ _ z_
  have hb_ : Below p1.heap.size p1 ((p1.alloc (.cells (evl 0 n16 (.slice none 0 0) (.slice none 0 0)) 51)).setRow p1.heap.size (evl 1 n16 (.slice ha 60 hc) (.slice ba 80 bc))) := below_setRow ((Below.refl _ _).alloc (Nat.le_refl _) _) (Nat.le_refl _) _
  clear z_
  replace hO := hO.keep hb_
  replace hw := Below.after hw hb_
  clear hb_
  generalize (p1.alloc (.cells (evl 0 n16 (.slice none 0 0) (.slice none 0 0)) 51)).setRow p1.heap.size (evl 1 n16 (.slice ha 60 hc) (.slice ba 80 bc)) = p2 at *
  generalize p1.heap.size = gO at *
  have cU := hide (a_Unpad 1 1 rfl (by decide) LB p2 (.slice ua 64 uc) (hO.bysB (by rw [hl64.out]; decide)) (own_cap hO))
  rw [hup.out, hur.out] at cU
  go_wp2_with (fail)
  refine cU.out.mono ?_
  rintro e_ p3 ⟨pl, rfl, hQ, hb_⟩
  obtain ⟨qa, qc, rfl⟩ : ∃ a c, pl = .slice a 2 c := slen_own hQ
  have cv := conv_bys10 hQ.bys
  rw [show strOfNums (bl [104#8, 105#8]) = { data := #[104, 105] } by decide] at cv
  have lO := lt_of_row RO
  replace RO := keep hb_ RO
  replace hw := Below.after hw hb_
  clear cU hb_ hO hQ
  have c18 : p3.cell? ⟨gO, 18, none⟩ = some (.slice ba 80 bc) := by rw [cell_of_row _ _ _ _ _ _ RO]; exact evl_b _ _ n16_len _ _
  have n1 := eql_nilE
  go_wp2_with (fail)
  go_ret
  exact ⟨rfl, hw⟩
end Go.Proofs.YtjoohgkgkabbpaaGreatDoor

