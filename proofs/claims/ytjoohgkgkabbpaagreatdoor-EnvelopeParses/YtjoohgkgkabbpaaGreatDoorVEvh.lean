import Derived.Test.YtjoohgkgkabbpaaGreatDoorVQd1
import Derived.Test.YtjoohgkgkabbpaaGreatDoorVJre
import Derived.OwnWalk
import Derived.Test.YtjoohgkgkabbpaaGreatDoorVQc0
import Derived.Deep.Cut
import Derived.Deep.RegionHeld3
import Derived.ChangeSlices
import Derived.SizedLaws
import Derived.Test.YtjoohgkgkabbpaaGreatDoorVOpen
import Derived.Test.YtjoohgkgkabbpaaGreatDoorVJrt
namespace Go.Proofs.YtjoohgkgkabbpaaGreatDoor
set_option maxRecDepth 100000
open Go Go.RowKit Go.Sort
end Go.Proofs.YtjoohgkgkabbpaaGreatDoor
namespace Go.Proofs.YtjoohgkgkabbpaaGreatDoor
set_option maxRecDepth 100000
open Go Go.RowKit Go.Sort Go.ChangeShapes Go.WideShapes Go.Deep
attribute [local go_sem] setCell_drewN alloc_drewN
theorem eq_non (d : Nat) (x y : List Int) (hx : x.length = 16) (hy : y.length = 16) (W : World) : (Op.equalIn (d + 2) 49 (.agg (irow .u8 x)) (.agg (irow .u8 y))).run Tryz.prog W = .ok (decide (x = y)) W := by
 obtain ⟨i0, hi⟩ := iU8g
 unfold irow
 rw [run_equalIn_array W (d + 1) _ _ Tryz.underlying49 hi, cU8g, run_eqItems_int d W Tryz.underlying5 hi x y (List.range 16) (fun i h => by simp at h; omega)]
 congr 1
 rw [Bool.eq_iff_iff]
 simp only [List.all_eq_true, List.mem_range, beq_iff_eq, decide_eq_true_eq]
 constructor
 ·intro h
  apply List.ext_getElem (by omega)
  intro i h1 h2
  have := h i (by omega)
  simpa [h1, h2] using this
 ·rintro rfl i _
  rfl
theorem infoNn (nonce : List B) (hn : nonce.length = 16) : (Tryz.prog.info? 49).map (·.size) = some (irow .u8 (bl nonce)).size := by
 rw [show (irow .u8 (bl nonce)).size = 16 by simp [irow, bl, hn]]
 kernel_rfl
set_option maxRecDepth 100000 in
set_option maxHeartbeats 8000000 in
theorem l_sameEnv (ver : Int) (nonce hd bd : List B) (hn : nonce.length = 16) (ha : Option Addr) (hc : Nat) (ba : Option Addr) (bc : Nat) (ia : Option Addr) (ic : Nat) (ja : Option Addr) (jc : Nat) (w : World) (h1 : Bys w (.slice ha hd.length hc) (bl hd)) (h2 : Bys w (.slice ba bd.length bc) (bl bd)) (h3 : Bys w (.slice ia hd.length ic) (bl hd)) (h4 : Bys w (.slice ja bd.length jc) (bl bd)) : Calls Tryz.prog 24 #[.agg (evl ver nonce (.slice ha hd.length hc) (.slice ba bd.length bc)), .agg (evl ver nonce (.slice ia hd.length ic) (.slice ja bd.length jc))] w fun e w' => e = .returned (.bool true) ∧ Below w.heap.size w w' := by
 have R0 := hp2_0 w (.cells (evl ver nonce (.slice ha hd.length hc) (.slice ba bd.length bc)) 51) (.cells (evl ver nonce (.slice ia hd.length ic) (.slice ja bd.length jc)) 51)
 have R1 := hp2_1 w (.cells (evl ver nonce (.slice ha hd.length hc) (.slice ba bd.length bc)) 51) (.cells (evl ver nonce (.slice ia hd.length ic) (.slice ja bd.length jc)) 51)
 have hw : Below w.heap.size w ((w.alloc (.cells (evl ver nonce (.slice ha hd.length hc) (.slice ba bd.length bc)) 51)).alloc (.cells (evl ver nonce (.slice ia hd.length ic) (.slice ja bd.length jc)) 51)) := ((Below.refl _ _).alloc (Nat.le_refl _) _).alloc (by simp) _
 replace h1 := h1.keep hw
 replace h2 := h2.keep hw
 replace h3 := h3.keep hw
 replace h4 := h4.keep hw
 have eN := hide (fun W : World => eq_non 9998 (bl nonce) (bl nonce) (by rw [bl_len, hn]) (by rw [bl_len, hn]) W)
 simp only [decide_true] at eN
 have dec1 : (decide (hd = hd)) = true := decide_eq_true rfl
 go_enter Tryz.func24, Tryz.ntmps24
 go_upto_region 1 with (first | (refine wpList_box rfl 51 _ rfl _ rfl (bEv _) ?_) | fail)
 try simp only [size_alloc1, Act.put, List.setIfInBounds_toArray, List.set_cons_succ, List.set_cons_zero]
 generalize (w.alloc (.cells (evl ver nonce (.slice ha hd.length hc) (.slice ba bd.length bc)) 51)).alloc (.cells (evl ver nonce (.slice ia hd.length ic) (.slice ja bd.length jc)) 51) = w0 at *
 have c0 : w0.cell? ⟨w.heap.size, 0, none⟩ = some (.int .i64 ver) := by rw [cell_of_row _ _ _ _ _ _ R0]; exact evl_0 _ _ _ _
 have c1 : w0.cell? ⟨w.heap.size + 1, 0, none⟩ = some (.int .i64 ver) := by rw [cell_of_row _ _ _ _ _ _ R1]; exact evl_0 _ _ _ _
 have c2 : w0.cell? ⟨w.heap.size, 17, none⟩ = some (.slice ha hd.length hc) := by rw [cell_of_row _ _ _ _ _ _ R0]; exact evl_h _ _ hn _ _
 have c3 : w0.cell? ⟨w.heap.size + 1, 17, none⟩ = some (.slice ia hd.length ic) := by rw [cell_of_row _ _ _ _ _ _ R1]; exact evl_h _ _ hn _ _
 have cS := sB_same hd hd w0 _ _ h1 h3
 rw [dec1] at cS
 replace cS := hide cS
 replace dec1 := hide dec1
 go_wp2_with (first | (refine wpList_load_part rfl 49 _ rfl (w.heap.size) 1 rfl 51 (evl ver nonce (.slice ha hd.length hc) (.slice ba bd.length bc)) (0, 0) (irow .u8 (bl nonce)) _ R0 (evl_n _ _ hn _ _) Tryz.underlying49 rfl (infoNn _ hn) ?_) | (refine wpList_load_part rfl 49 _ rfl (w.heap.size + 1) 1 rfl 51 (evl ver nonce (.slice ia hd.length ic) (.slice ja bd.length jc)) (0, 0) (irow .u8 (bl nonce)) _ R1 (evl_n _ _ hn _ _) Tryz.underlying49 rfl (infoNn _ hn) ?_) | (refine wpList_eql rfl 49 49 _ _ rfl (irow .u8 (bl nonce)) (irow .u8 (bl nonce)) rfl rfl (by kernel_rfl) true (eN.out _) ?_) | fail)
 refine cS.out.mono ?_
 rintro e_ w1 ⟨rfl, hb⟩
 have l1 := lt_of_row R1
 replace R0 := keep hb R0
 replace R1 := keep hb R1
 replace h2 := h2.keep hb
 replace h4 := h4.keep hb
 replace hw := Below.after hw hb
 clear hb cS c0 c1 c2 c3
 have c4 : w1.cell? ⟨w.heap.size, 18, none⟩ = some (.slice ba bd.length bc) := by rw [cell_of_row _ _ _ _ _ _ R0]; exact evl_b _ _ hn _ _
 have c5 : w1.cell? ⟨w.heap.size + 1, 18, none⟩ = some (.slice ja bd.length jc) := by rw [cell_of_row _ _ _ _ _ _ R1]; exact evl_b _ _ hn _ _
 have cS := sB_same bd bd w1 _ _ h2 h4
 rw [show (decide (bd = bd)) = true from decide_eq_true rfl] at cS
 replace cS := hide cS
 go_wp2_with (fail)
 refine cS.out.mono ?_
 rintro e_ w2 ⟨rfl, hb⟩
 replace hw := Below.after hw hb
 clear hb cS
 go_wp2_with (fail)
 go_ret
 exact ⟨rfl, hw⟩
end Go.Proofs.YtjoohgkgkabbpaaGreatDoor
namespace Go.Proofs.YtjoohgkgkabbpaaGreatDoor
set_option maxRecDepth 100000
open Go Go.RowKit Go.Sort
attribute [local go_sem] setCell_drewN alloc_drewN
def vP (d : List B) : Int := match paF d with | none => (riV d : Int) | some _ => 0
def nP (d : List B) : List B := match paF d with | none => (gf (dfs (dwh d)) 1).dat | some _ => n16
def hP (d : List B) : List B := match paF d with | none => (gf (dfs (dwh d)) 2).dat | some _ => []
def bP (d : List B) : List B := match paF d with | none => (gf (dfs (dwh d)) 3).dat | some _ => []
def fP (d : List B) : Array Value := fPk (paF d)
theorem nP_len (d : List B) : (nP d).length = 16 := by
 unfold nP
 cases h : paF d with
 | some x => exact n16_len
 | none =>
  obtain ⟨nonce, hd, bd, _, hn, hfs, _, _, _⟩ := back10 h
  simp only
  rw [hfs]
  exact hn
theorem hP_len (d : List B) : (hP d).length ≤ 140737488350000 := by
 unfold hP
 cases h : paF d with
 | some x => exact Nat.zero_le _
 | none =>
  obtain ⟨nonce, hd, bd, _, hn, hfs, hp, _, _⟩ := back10 h
  simp only
  rw [hfs]
  have := (pk_ok hp).1
  show hd.length ≤ _
  omega
theorem bP_len (d : List B) : (bP d).length ≤ 140737488350000 := by
 unfold bP
 cases h : paF d with
 | some x => exact Nat.zero_le _
 | none =>
  obtain ⟨nonce, hd, bd, _, hn, hfs, hp, _, _⟩ := back10 h
  simp only
  rw [hfs]
  have := (pk_ok hp).2.2.1
  have := mo_le (riV d)
  show bd.length ≤ _
  omega
theorem paF_why {d : List B} {x : Flt3} (h : paF d = some x) : x.why ≠ 0 := by
 unfold paF at h
 split at h
 ·rename_i h0
  injection h with h
  subst h
  exact h0
 ·split at h
  ·rename_i hd
   injection h with h
   subst h
   exact dec8_why hd
  ·split at h
   ·cases h
   ·injection h with h
    subst h
    decide
theorem a_ParseEF (d : List B) (b : Value) (w : World) (hB : BysB w b d) (hcap : ∀ a l c, b = .slice a l c → l ≤ c) : Calls Tryz.prog 22 #[b] w fun e w' => ∃ ha hc ba bc E, e = .returned (.tuple #[.agg (evl (vP d) (nP d) (.slice ha (hP d).length hc) (.slice ba (bP d).length bc)), E]) ∧ Own w' w.heap.size (.slice ha (hP d).length hc) (hP d) ∧ Own w' w.heap.size (.slice ba (bP d).length bc) (bP d) ∧ (∀ k, (Value.slice ha (hP d).length hc).ownBlock = some k → (Value.slice ba (bP d).length bc).ownBlock ≠ some k) ∧ Fy w' w.heap.size E (fP d) ∧ Below w.heap.size w w' := by
 refine (a_ParseE d b w hB hcap).mono ?_
 rintro e w' ⟨h, hb⟩
 unfold PrE at h
 unfold vP nP hP bP fP
 cases hd : paF d with
 | none =>
  rw [hd] at h
  obtain ⟨ha, hc, ba, bc, h1, h2, h3, h4⟩ := h
  exact ⟨ha, hc, ba, bc, _, h1, h2, h3, h4, .inl ⟨rfl, rfl⟩, hb⟩
 | some x =>
  rw [hd] at h
  obtain ⟨g, h1, h2, h3⟩ := h
  exact ⟨none, 0, none, 0, _, h1, own_none10 _ _, own_none10 _ _, fun k hk => (by cases hk), .inr ⟨g, x, h2, rfl, rfl, paF_why hd, h3⟩, hb⟩
end Go.Proofs.YtjoohgkgkabbpaaGreatDoor

