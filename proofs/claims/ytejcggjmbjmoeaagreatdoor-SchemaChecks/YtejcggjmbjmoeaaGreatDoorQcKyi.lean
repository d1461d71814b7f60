import Derived.Test.YtejcggjmbjmoeaaGreatDoorQcKtq
namespace Go.Proofs.YtejcggjmbjmoeaaGreatDoor
set_option maxRecDepth 100000
open Go Go.RowKit Go.Sort
attribute [local go_sem] setCell_drewN alloc_drewN
theorem zr_tail (n : Nat) : (zr (n + 3)).drop n = [0, 0, 0] := by
 unfold zr
 simp [List.drop_replicate]
theorem irow_mark (bs : List B) : (((irow .u8 (bl bs ++ [0, 0, 0])).setIfInBounds bs.length (.int .u8 7)).setIfInBounds (bs.length + 1) (.int .u8 8)).setIfInBounds (bs.length + 2) (.int .u8 9) = irow .u8 (bl bs ++ [7, 8, 9]) := by
 have hl := bl_len bs
 unfold irow
 simp [hl]
set_option maxRecDepth 100000 in
set_option maxHeartbeats 16000000 in
theorem l_handV {W : World} {S : Nat → Prop} {x : VR} {X : VT} (h : VtM W S x X) : ∀ (l : Int), l ≤ 10000 → 0 ≤ vlf X l → ∀ (w : World), Below W.heap.size W w → Calls Tryz.prog 10 #[.agg (vrv x)] w fun e w' => ∃ y, e = .returned (.agg (vrv y)) ∧ Below w.heap.size w w' ∧ HVt w' (fun b => w.heap.size ≤ b) y X := by
 induction h with
 | mk x bs xs ps hn hdl hbl hd hdc hds hpl hxl hpc hpm hps hP hs ih =>
  intro l hl1 hl2 w hw
  obtain ⟨h1, h2, h3⟩ := vlf_sz hl2 hl1
  replace h1 : bs.length ≤ 640063 := h1
  replace h2 : ps.length ≤ 10000 := h2
  replace h3 : ∀ i, i < ps.length → ∃ l', l' ≤ 10000 ∧ 0 ≤ vlf (gvt ps i) l' := h3
  clear hl1 hl2 hpm
  obtain ⟨n, da, dl, dc, pa, pl, pc⟩ := x
  replace hdl : dl = bs.length := hdl
  replace hpl : pl = ps.length := hpl
  replace hn : n < 18446744073709551616 := hn
  replace hd : BysB W (.slice da dl dc) bs := hd
  replace hP : ∀ i, i < ps.length → ∃ b off, pa = some ⟨b, off, none⟩ ∧ W.rangeAt b (off + i * 3) (vrv (gx xs i)).toList := hP
  replace hps : InS W S (lv pl pa) := hps
  subst hpl
  have hdw := hd.keep hw
  unfold vrv vrw
  have hdlh := hide hdl
  clear hdl
  have hb0 : Below w.heap.size w (((w.alloc (.cells #[.int .u64 (n : Int), .slice da dl dc, .slice pa ps.length pc] 27)).alloc (.cells #[.int .u64 0, .slice none 0 0, .slice none 0 0] 27)).alloc (.cells #[.int .u64 0, .slice none 0 0, .slice none 0 0] 27)) := (((Below.refl _ _).alloc (Nat.le_refl _) _).alloc (by simp) _).alloc (by simp; omega) _
  have r0 := hp3_0 w (.cells #[.int .u64 (n : Int), .slice da dl dc, .slice pa ps.length pc] 27) (.cells #[.int .u64 0, .slice none 0 0, .slice none 0 0] 27) (.cells #[.int .u64 0, .slice none 0 0, .slice none 0 0] 27)
  have r1 := hp3_1 w (.cells #[.int .u64 (n : Int), .slice da dl dc, .slice pa ps.length pc] 27) (.cells #[.int .u64 0, .slice none 0 0, .slice none 0 0] 27) (.cells #[.int .u64 0, .slice none 0 0, .slice none 0 0] 27)
  have r2 := hp3_2 w (.cells #[.int .u64 (n : Int), .slice da dl dc, .slice pa ps.length pc] 27) (.cells #[.int .u64 0, .slice none 0 0, .slice none 0 0] 27) (.cells #[.int .u64 0, .slice none 0 0, .slice none 0 0] 27)
  have hsz : (((w.alloc (.cells #[.int .u64 (n : Int), .slice da dl dc, .slice pa ps.length pc] 27)).alloc (.cells #[.int .u64 0, .slice none 0 0, .slice none 0 0] 27)).alloc (.cells #[.int .u64 0, .slice none 0 0, .slice none 0 0] 27)).heap.size = w.heap.size + 3 := by simp
  have hone : (#[Value.int .u64 (n : Int), .slice none 0 0, .slice none 0 0] : Array Value).all (·.oneCell') = true := by simp [Value.oneCell']
  have q0 := (setRow_other _ (w.heap.size + 1 + 1) w.heap.size #[.int .u64 (n : Int), .slice none 0 0, .slice none 0 0] (by omega)).trans r0
  have q1 := (setRow_other _ (w.heap.size + 1 + 1) (w.heap.size + 1) #[.int .u64 (n : Int), .slice none 0 0, .slice none 0 0] (by omega)).trans r1
  have q2 := setRow_heap _ (w.heap.size + 1 + 1) _ #[.int .u64 (n : Int), .slice none 0 0, .slice none 0 0] _ _ r2
  have hb1 := below_setRow (g := w.heap.size + 1 + 1) hb0 (by omega) #[.int .u64 (n : Int), .slice none 0 0, .slice none 0 0]
  have hsz1 : ((((w.alloc (.cells #[.int .u64 (n : Int), .slice da dl dc, .slice pa ps.length pc] 27)).alloc (.cells #[.int .u64 0, .slice none 0 0, .slice none 0 0] 27)).alloc (.cells #[.int .u64 0, .slice none 0 0, .slice none 0 0] 27)).setRow (w.heap.size + 1 + 1) #[.int .u64 (n : Int), .slice none 0 0, .slice none 0 0]).heap.size = w.heap.size + 3 := by simp
  have A1 := hide hb1
  have A2 := hide hsz1
  have A3 := hide q1
  have A4 := hide q0
  have A5 := hide q2
  clear hb1 hsz1 q0 q1 q2 hb0 r0 r1 hsz
  go_enter Tryz.func10, Tryz.ntmps10
  go_upto_region 2 with (first | (refine wpList_store_row rfl 27 _ _ rfl (w.heap.size + 1 + 1) #[.int .u64 (n : Int), .slice none 0 0, .slice none 0 0] rfl rfl 27 _ r2 infoV rfl hone ?_) | fail)
  generalize (((w.alloc (.cells #[.int .u64 (n : Int), .slice da dl dc, .slice pa ps.length pc] 27)).alloc (.cells #[.int .u64 0, .slice none 0 0, .slice none 0 0] 27)).alloc (.cells #[.int .u64 0, .slice none 0 0, .slice none 0 0] 27)).setRow (w.heap.size + 1 + 1) #[.int .u64 (n : Int), .slice none 0 0, .slice none 0 0] = w1 at *
  clear r2
  have hb1 := A1.out
  have hsz1 := A2.out
  have q0 := A4.out
  have q1 := A3.out
  have q2 := A5.out
  clear A1 A2 A3 A4 A5
  -- the data: so many bytes and three more
  have hdb : dl ≤ 640063 := by rw [hdlh.out]; exact h1
  have c1 : w1.cell? ⟨w.heap.size, 1, none⟩ = some (.slice da dl dc) := by rw [cell_of_row _ _ _ _ _ _ q0]; rfl
  have hmk : (Instr.makeSlice 24 (.int .i64 ((dl : Int) + 3)) (.int .i64 ((dl : Int) + 3))).run Tryz.prog w1 = .ok (.slice (some ⟨w1.heap.size, 0, none⟩) (dl + 3) (dl + 3)) (w1.alloc (.cells (irow .u8 (zr (dl + 3))) 5)) := make_lc (dl + 3) (dl + 3) (Nat.le_refl _) (by have := hdlh.out; omega) w1
  rw [hsz1] at hmk
  have rD := hp1_0 w1 (.cells (irow .u8 (zr (dl + 3))) 5)
  rw [hsz1] at rD
  have hba : Below w1.heap.size w1 (w1.alloc (.cells (irow .u8 (zr (dl + 3))) 5)) := (Below.refl _ _).alloc (Nat.le_refl _) _
  have hbA := Below.after hb1 hba
  have hdv := (hdw.keep hbA).1
  have hzl : (zr (dl + 3)).length = dl + 3 := zr_len _
  have hcp : (Builtin.copy_ #[24, 24] 3 #[.slice (some ⟨w.heap.size + 3, 0, none⟩) (dl + 3) (dl + 3), .slice da dl dc]).run Tryz.prog (w1.alloc (.cells (irow .u8 (zr (dl + 3))) 5)) = .ok (goInt (dl : Int)) ((w1.alloc (.cells (irow .u8 (zr (dl + 3))) 5)).setRow (w.heap.size + 3) (irow .u8 (bl bs ++ [0, 0, 0]))) := by
   have e := copy_bys (o := 0) (dLen := dl + 3) (dCap := dl + 3) rD hdv (by rw [bl_len, hdlh.out]; omega) (by rw [bl_len, hzl, hdlh.out]; omega)
   rw [List.take_zero, List.nil_append, Nat.zero_add, bl_len, ← hdlh.out, show (zr (dl + 3)).drop dl = [0, 0, 0] from zr_tail dl] at e
   exact e
  have rD2 := setRow_heap _ (w.heap.size + 3) _ (irow .u8 (bl bs ++ [0, 0, 0])) _ _ rD
  have q0a := (setRow_other _ (w.heap.size + 3) w.heap.size (irow .u8 (bl bs ++ [0, 0, 0])) (by omega)).trans (keep hba q0)
  have q1a := (setRow_other _ (w.heap.size + 3) (w.heap.size + 1) (irow .u8 (bl bs ++ [0, 0, 0])) (by omega)).trans (keep hba q1)
  have q2a := (setRow_other _ (w.heap.size + 3) (w.heap.size + 1 + 1) (irow .u8 (bl bs ++ [0, 0, 0])) (by omega)).trans (keep hba q2)
  have hb2 := below_setRow (g := w.heap.size + 3) hbA (by omega) (irow .u8 (bl bs ++ [0, 0, 0]))
  have hsz2 : ((w1.alloc (.cells (irow .u8 (zr (dl + 3))) 5)).setRow (w.heap.size + 3) (irow .u8 (bl bs ++ [0, 0, 0]))).heap.size = w.heap.size + 4 := by simp; omega
  replace rD2 := hide rD2
  replace q0a := hide q0a
  replace q1a := hide q1a
  replace q2a := hide q2a
  replace hb2 := hide hb2
  replace hsz2 := hide hsz2
  have c1a : (w1.alloc (.cells (irow .u8 (zr (dl + 3))) 5)).cell? ⟨w.heap.size, 1, none⟩ = some (.slice da dl dc) := by rw [cell_of_row _ _ _ _ _ _ (keep hba q0)]; rfl
  clear hdv hba hbA rD hb1 hsz1 q0 q1 q2 hzl hdw
  go_upto_region 3 with (fail)
  generalize w1.alloc (.cells (irow .u8 (zr (dl + 3))) 5) = w1a at *
  go_upto_region 4 with (fail)
  generalize w1a.setRow (w.heap.size + 3) (irow .u8 (bl bs ++ [0, 0, 0])) = w2 at *
  clear hcp hmk c1 c1a
  -- the three marks
  have rD3 : (((w2.setCell ⟨w.heap.size + 3, dl, none⟩ (.int .u8 7)).setCell ⟨w.heap.size + 3, dl + 1, none⟩ (.int .u8 8)).setCell ⟨w.heap.size + 3, dl + 2, none⟩ (.int .u8 9)).heap[w.heap.size + 3]? = some (.cells (irow .u8 (bl bs ++ [7, 8, 9])) 5 (0, 0)) := by
   have e := heap_setCell_same _ (w.heap.size + 3) (dl + 2) _ _ (.int .u8 9) (heap_setCell_same _ (w.heap.size + 3) (dl + 1) _ _ (.int .u8 8) (heap_setCell_same w2 (w.heap.size + 3) dl _ _ (.int .u8 7) rD2.out))
   rw [hdlh.out, irow_mark] at e
   rw [hdlh.out]
   exact e
  have q0b : (((w2.setCell ⟨w.heap.size + 3, dl, none⟩ (.int .u8 7)).setCell ⟨w.heap.size + 3, dl + 1, none⟩ (.int .u8 8)).setCell ⟨w.heap.size + 3, dl + 2, none⟩ (.int .u8 9)).heap[w.heap.size]? = _ := (heap_setCell_other _ _ (w.heap.size) _ (by show w.heap.size ≠ w.heap.size + 3; omega)).trans ((heap_setCell_other _ _ (w.heap.size) _ (by show w.heap.size ≠ w.heap.size + 3; omega)).trans ((heap_setCell_other _ _ (w.heap.size) _ (by show w.heap.size ≠ w.heap.size + 3; omega)).trans q0a.out))
  have q1b : (((w2.setCell ⟨w.heap.size + 3, dl, none⟩ (.int .u8 7)).setCell ⟨w.heap.size + 3, dl + 1, none⟩ (.int .u8 8)).setCell ⟨w.heap.size + 3, dl + 2, none⟩ (.int .u8 9)).heap[w.heap.size + 1]? = _ := (heap_setCell_other _ _ (w.heap.size + 1) _ (by show w.heap.size + 1 ≠ w.heap.size + 3; omega)).trans ((heap_setCell_other _ _ (w.heap.size + 1) _ (by show w.heap.size + 1 ≠ w.heap.size + 3; omega)).trans ((heap_setCell_other _ _ (w.heap.size + 1) _ (by show w.heap.size + 1 ≠ w.heap.size + 3; omega)).trans q1a.out))
  have q2b : (((w2.setCell ⟨w.heap.size + 3, dl, none⟩ (.int .u8 7)).setCell ⟨w.heap.size + 3, dl + 1, none⟩ (.int .u8 8)).setCell ⟨w.heap.size + 3, dl + 2, none⟩ (.int .u8 9)).heap[w.heap.size + 1 + 1]? = _ := (heap_setCell_other _ _ (w.heap.size + 1 + 1) _ (by show w.heap.size + 1 + 1 ≠ w.heap.size + 3; omega)).trans ((heap_setCell_other _ _ (w.heap.size + 1 + 1) _ (by show w.heap.size + 1 + 1 ≠ w.heap.size + 3; omega)).trans ((heap_setCell_other _ _ (w.heap.size + 1 + 1) _ (by show w.heap.size + 1 + 1 ≠ w.heap.size + 3; omega)).trans q2a.out))
  have hb3 : Below w.heap.size w (((w2.setCell ⟨w.heap.size + 3, dl, none⟩ (.int .u8 7)).setCell ⟨w.heap.size + 3, dl + 1, none⟩ (.int .u8 8)).setCell ⟨w.heap.size + 3, dl + 2, none⟩ (.int .u8 9)) := ((hb2.out.setCell (by show w.heap.size ≤ w.heap.size + 3; omega) _).setCell (by show w.heap.size ≤ w.heap.size + 3; omega) _).setCell (by show w.heap.size ≤ w.heap.size + 3; omega) _
  have hsz3 : (((w2.setCell ⟨w.heap.size + 3, dl, none⟩ (.int .u8 7)).setCell ⟨w.heap.size + 3, dl + 1, none⟩ (.int .u8 8)).setCell ⟨w.heap.size + 3, dl + 2, none⟩ (.int .u8 9)).heap.size = w.heap.size + 4 := by simp [hsz2.out]
  replace rD3 := hide rD3
  replace q0b := hide q0b
  replace q1b := hide q1b
  replace q2b := hide q2b
  replace hb3 := hide hb3
  replace hsz3 := hide hsz3
  have lz : (bl bs ++ [0, 0, 0]).length = dl + 3 := by rw [List.length_append, bl_len, hdlh.out]; rfl
  have c1 : w2.cell? ⟨w.heap.size, 1, none⟩ = some (.slice da dl dc) := by rw [cell_of_row _ _ _ _ _ _ q0a.out]; rfl
  have f0 : ∃ v, w2.cell? ⟨w.heap.size + 3, dl, none⟩ = some v := ⟨_, irow_cell rD2.out (by omega)⟩
  have f1 : ∃ v, w2.cell? ⟨w.heap.size + 3, dl + 1, none⟩ = some v := ⟨_, irow_cell rD2.out (by omega)⟩
  have f2 : ∃ v, w2.cell? ⟨w.heap.size + 3, dl + 2, none⟩ = some v := ⟨_, irow_cell rD2.out (by omega)⟩
  obtain ⟨v0, f0⟩ := f0
  obtain ⟨v1, f1⟩ := f1
  obtain ⟨v2, f2⟩ := f2
  have z0 : w2.frozen? ⟨w.heap.size + 3, dl, none⟩ = false := by simp [World.frozen?, rD2.out]
  have z1 : w2.frozen? ⟨w.heap.size + 3, dl + 1, none⟩ = false := by simp [World.frozen?, rD2.out]
  have z2 : w2.frozen? ⟨w.heap.size + 3, dl + 2, none⟩ = false := by simp [World.frozen?, rD2.out]
  have p0 : (dl : Int) < (dl : Int) + 3 := by omega
  have p1 : (dl : Int) + 1 < (dl : Int) + 3 := by omega
  have p2 : (dl : Int) + 2 < (dl : Int) + 3 := by omega
  go_wp2_with (fail)
  refine wp_loop_rounds 4 ?_
  rw [rounds_succ]
  go_wp2_with (fail)
  rw [rounds_succ]
  go_wp2_with (fail)
  rw [rounds_succ]
  go_wp2_with (fail)
  rw [rounds_succ]
  go_upto_region 8 with (fail)
  generalize ((w2.setCell ⟨w.heap.size + 3, dl, none⟩ (.int .u8 7)).setCell ⟨w.heap.size + 3, dl + 1, none⟩ (.int .u8 8)).setCell ⟨w.heap.size + 3, dl + 2, none⟩ (.int .u8 9) = w3 at *
  -- the data's place
  have q0 := q0b.out
  have q1 := q1b.out
  have q2 := q2b.out
  have hb := hb3.out
  have hsz := hsz3.out
  have rD := rD3.out
  clear q0b q1b q2b hb3 hsz3 rD3 rD2 q0a q1a q2a hb2 hsz2 f0 f1 f2 z0 z1 z2 c1 p0 p1 p2 lz
  have k1 : w3.cell? ⟨w.heap.size, 1, none⟩ = some (.slice da dl dc) := by rw [cell_of_row _ _ _ _ _ _ q0]; rfl
  have k2 : w3.cell? ⟨w.heap.size + 1 + 1, 1, none⟩ = some (.slice none 0 0) := by rw [cell_of_row _ _ _ _ _ _ q2]; rfl
  have k3 : w3.frozen? ⟨w.heap.size + 1 + 1, 1, none⟩ = false := by simp [World.frozen?, q2]
  have q0' : (w3.setCell ⟨w.heap.size + 1 + 1, 1, none⟩ (.slice (some ⟨w.heap.size + 3, 0, none⟩) dl (dl + 3))).heap[w.heap.size]? = _ := (heap_setCell_other _ _ (w.heap.size) _ (by show w.heap.size ≠ w.heap.size + 1 + 1; omega)).trans q0
  have q1' : (w3.setCell ⟨w.heap.size + 1 + 1, 1, none⟩ (.slice (some ⟨w.heap.size + 3, 0, none⟩) dl (dl + 3))).heap[w.heap.size + 1]? = _ := (heap_setCell_other _ _ (w.heap.size + 1) _ (by show w.heap.size + 1 ≠ w.heap.size + 1 + 1; omega)).trans q1
  have rD' : (w3.setCell ⟨w.heap.size + 1 + 1, 1, none⟩ (.slice (some ⟨w.heap.size + 3, 0, none⟩) dl (dl + 3))).heap[w.heap.size + 3]? = _ := (heap_setCell_other _ _ (w.heap.size + 3) _ (by show w.heap.size + 3 ≠ w.heap.size + 1 + 1; omega)).trans rD
  have q2' : (w3.setCell ⟨w.heap.size + 1 + 1, 1, none⟩ (.slice (some ⟨w.heap.size + 3, 0, none⟩) dl (dl + 3))).heap[w.heap.size + 1 + 1]? = some (.cells #[.int .u64 (n : Int), .slice (some ⟨w.heap.size + 3, 0, none⟩) dl (dl + 3), .slice none 0 0] 27 (0, 0)) := heap_setCell_same w3 (w.heap.size + 1 + 1) 1 _ _ (.slice (some ⟨w.heap.size + 3, 0, none⟩) dl (dl + 3)) q2
  have hb' : Below w.heap.size w (w3.setCell ⟨w.heap.size + 1 + 1, 1, none⟩ (.slice (some ⟨w.heap.size + 3, 0, none⟩) dl (dl + 3))) := hb.setCell (by show w.heap.size ≤ w.heap.size + 1 + 1; omega) _
  have hsz' : (w3.setCell ⟨w.heap.size + 1 + 1, 1, none⟩ (.slice (some ⟨w.heap.size + 3, 0, none⟩) dl (dl + 3))).heap.size = w.heap.size + 4 := by simp [hsz]
  replace q0' := hide q0'
  replace q1' := hide q1'
  replace q2' := hide q2'
  replace rD' := hide rD'
  replace hb' := hide hb'
  replace hsz' := hide hsz'
  clear q0 q1 q2 rD hb hsz
  go_upto_region 9 with (fail)
  generalize w3.setCell ⟨w.heap.size + 1 + 1, 1, none⟩ (.slice (some ⟨w.heap.size + 3, 0, none⟩) dl (dl + 3)) = w4 at *
  clear k1 k2 k3 w3
  have q0 := q0'.out
  have q1 := q1'.out
  have q2 := q2'.out
  have hb := hb'.out
  have hsz := hsz'.out
  have rD := rD'.out
  clear q0' q1' q2' hb' hsz' rD'
  -- the parts' place
  have k1 : w4.cell? ⟨w.heap.size, 2, none⟩ = some (.slice pa ps.length pc) := by rw [cell_of_row _ _ _ _ _ _ q0]; rfl
  obtain ⟨cs, hmk, hcs1, hcs2⟩ := make_vs (ps.length + 3) (by omega) w4
  have hmk' : (Instr.makeSlice 25 (.int .i64 ((ps.length : Int) + 3)) (.int .i64 ((ps.length : Int) + 3))).run Tryz.prog w4 = .ok (.slice (some ⟨w.heap.size + 4, 0, none⟩) (ps.length + 3) (ps.length + 3)) (w4.alloc (.cells cs 27)) := by
   rw [hsz] at hmk
   exact hmk
  have hR0 : Pvw (w4.alloc (.cells cs 27)) (w.heap.size + 4) ps.length [] 0 := ⟨cs, by rw [← hsz]; exact hp1_0 w4 _, hcs1, fun i c h1 h2 => by unfold pvw; rw [if_neg (by omega)]; exact hcs2 i c h1 h2⟩
  have hba : Below w4.heap.size w4 (w4.alloc (.cells cs 27)) := (Below.refl _ _).alloc (Nat.le_refl _) _
  have hsa : (w4.alloc (.cells cs 27)).heap.size = w.heap.size + 5 := by rw [size_alloc1, hsz]
  replace hR0 := hide hR0
  replace hba := hide hba
  replace hsa := hide hsa
  replace hb := hide hb
  replace hsz := hide hsz
  replace q0 := hide q0
  replace q1 := hide q1
  replace q2 := hide q2
  replace rD := hide rD
  clear hmk hcs1 hcs2
  go_upto_region 10 with (fail)
  generalize w4.alloc (.cells cs 27) = w5 at *
  clear k1 hmk'
  go_wp2_with (fail)
  go_loopw [7] (fun i wr => ∃ (k : Nat) (vs : List VR), k ≤ ps.length + 3 ∧ i = .int .i64 k ∧ Below w4.heap.size w4 wr ∧ w.heap.size + 4 < wr.heap.size ∧ vs.length = min k ps.length ∧ Pvw wr (w.heap.size + 4) ps.length vs k ∧ ∀ i, i < min k ps.length → HVt wr (fun b => w.heap.size + 4 < b) (gx vs i) (gvt ps i)) (fun i _ => ps.length + 3 - (intOf i).toNat)
  case atStart => exact ⟨0, [], by omega, rfl, hba.out, by rw [hsa.out]; omega, by simp, hR0.out, fun i hi => by omega⟩
  case round =>
   clear hR0 hba hsa w5
   obtain ⟨k, vs, hk, rfl, hB, hGl, hvl, hR, hN⟩ := hrel
   have hwn := Below.after hb.out hB
   have hww := Below.after hw hwn
   have k1 : wr.cell? ⟨w.heap.size, 2, none⟩ = some (.slice pa ps.length pc) := by rw [cell_of_row _ _ _ _ _ _ (keep hB q0.out)]; rfl
   by_cases hlt : k < ps.length + 3
   ·have hd' : ((k : Int) < (ps.length : Int) + 3) := by omega
    obtain ⟨cc, hcc, hcz, hcv⟩ := id hR
    have fz : wr.frozen? ⟨w.heap.size + 4, k * 3, none⟩ = false := by simp [World.frozen?, hcc]
    have fc : wr.cell? ⟨w.heap.size + 4, k * 3, none⟩ = some (.int .u64 0) := by
     rw [cell_of_row _ _ _ _ _ _ hcc]
     have := hcv k 0 hlt (by omega)
     rw [Nat.add_zero] at this
     rw [this]; unfold pvw; rw [if_neg (by omega)]; rfl
    have hB2 : Below w4.heap.size w4 (wr.setCell ⟨w.heap.size + 4, k * 3, none⟩ (.int .u64 4711)) := hB.setCell (by show w4.heap.size ≤ w.heap.size + 4; rw [hsz.out]; omega) _
    have hsz2 : (wr.setCell ⟨w.heap.size + 4, k * 3, none⟩ (.int .u64 4711)).heap.size = wr.heap.size := by simp
    by_cases hkn : k < ps.length
    ·have hd2 : (k : Int) < (ps.length : Int) := by omega
     obtain ⟨b, off, hpa, hra⟩ := hP k hkn
     obtain ⟨l', hl3, hl4⟩ := h3 k hkn
     have hbl : b < W.heap.size := (hps ⟨b, off, none⟩ ((lv_pos (by omega)).trans hpa)).2
     have hih := ih k hkn l' hl3 hl4
     have hWw := hw.size
     have hra2 := rangeS_keep2 hra hww hbl
     have hww2 : Below W.heap.size W (wr.setCell ⟨w.heap.size + 4, k * 3, none⟩ (.int .u64 4711)) := Below.after hw (Below.after hb.out hB2)
     have cH := hih _ hww2
     rw [Nat.min_eq_left (by omega)] at hvl hN
     subst hpa
     have hbG : ¬ w.heap.size + 4 = b := by omega
     have hbG2 : ¬ b = w.heap.size + 4 := by omega
     have hRp := fun (V : World) (y : VR) hV => hR.part (V := V) (y := y) hkn hvl hV
     have hxg : Hid (gvt ps k = gvt ps k) := hide rfl
     generalize gx xs k = x at *
     obtain ⟨xn, xda, xdl, xdc, xpa, xpl, xpc⟩ := x
     unfold vrv vrw at hra2 cH
     have b0 := hra2 0 _ rfl
     have b1 := hra2 1 _ rfl
     have b2 := hra2 2 _ rfl
     rw [Nat.add_zero] at b0
     have r6 := heap_setCell_same wr (w.heap.size + 4) (k * 3) cc _ (.int .u64 4711) hcc
     replace hN := hide hN
     replace hRp := hide hRp
     replace r6 := hide r6
     replace hB2 := hide hB2
     replace hsz2 := hide hsz2
     replace cH := hide cH
     clear hra hra2 hww2 hih hR hcv hcc hB
     go_wp2_with (fail)
     refine cH.out.mono ?_
     rintro e_ w6 ⟨y, rfl, hb6, hy⟩
     clear cH b0 b1 b2 fz fc k1
     obtain ⟨yn, yda, ydl, ydc, ypa, ypl, ypc⟩ := y
     have hGs : w.heap.size + 4 < (wr.setCell ⟨w.heap.size + 4, k * 3, none⟩ (.int .u64 4711)).heap.size := by rw [hsz2.out]; exact hGl
     have r7 := keep hb6 r6.out
     have hs6 := hb6.size
     rw [hsz2.out] at hs6
     have hz4 := hsz.out
     have hRn : Pvw (((w6.setCell ⟨w.heap.size + 4, k * 3, none⟩ (.int .u64 (yn : Int))).setCell ⟨w.heap.size + 4, k * 3 + 1, none⟩ (.slice yda ydl ydc)).setCell ⟨w.heap.size + 4, k * 3 + 2, none⟩ (.slice ypa ypl ypc)) (w.heap.size + 4) ps.length (vs ++ [⟨yn, yda, ydl, ydc, ypa, ypl, ypc⟩]) (k + 1) := hRp.out w6 ⟨yn, yda, ydl, ydc, ypa, ypl, ypc⟩ (hb6.block _ hGs)
     have hzz : ∀ o, w6.frozen? ⟨w.heap.size + 4, o, none⟩ = false := fun o => by simp [World.frozen?, r7]
     have z0 := hzz (k * 3)
     have z1 := hzz (k * 3 + 1)
     have z2 := hzz (k * 3 + 2)
     have hcl : ∀ o, o < (ps.length + 3) * 3 → ∃ v, w6.cell? ⟨w.heap.size + 4, o, none⟩ = some v := fun o ho => by
      rw [cell_of_row _ _ _ _ _ _ r7]
      exact ⟨_, Array.getElem?_eq_getElem (by rw [Array.size_setIfInBounds]; omega)⟩
     obtain ⟨v0, f0⟩ := hcl (k * 3) (by omega)
     obtain ⟨v1, f1⟩ := hcl (k * 3 + 1) (by omega)
     obtain ⟨v2, f2⟩ := hcl (k * 3 + 2) (by omega)
     have hB7 : Below w4.heap.size w4 (((w6.setCell ⟨w.heap.size + 4, k * 3, none⟩ (.int .u64 (yn : Int))).setCell ⟨w.heap.size + 4, k * 3 + 1, none⟩ (.slice yda ydl ydc)).setCell ⟨w.heap.size + 4, k * 3 + 2, none⟩ (.slice ypa ypl ypc)) := below_setCells (g := w.heap.size + 4) (by omega) [.int .u64 (yn : Int), .slice yda ydl ydc, .slice ypa ypl ypc] (k * 3) w6 (Below.after hB2.out hb6)
     have hs7 : (((w6.setCell ⟨w.heap.size + 4, k * 3, none⟩ (.int .u64 (yn : Int))).setCell ⟨w.heap.size + 4, k * 3 + 1, none⟩ (.slice yda ydl ydc)).setCell ⟨w.heap.size + 4, k * 3 + 2, none⟩ (.slice ypa ypl ypc)).heap.size = w6.heap.size := size_setCells (g := w.heap.size + 4) [.int .u64 (yn : Int), .slice yda ydl ydc, .slice ypa ypl ypc] (k * 3) w6
     have hel : ∀ q, q ≠ w.heap.size + 4 → (((w6.setCell ⟨w.heap.size + 4, k * 3, none⟩ (.int .u64 (yn : Int))).setCell ⟨w.heap.size + 4, k * 3 + 1, none⟩ (.slice yda ydl ydc)).setCell ⟨w.heap.size + 4, k * 3 + 2, none⟩ (.slice ypa ypl ypc)).heap[q]? = w6.heap[q]? := fun q hq => heap_setCells_else (g := w.heap.size + 4) hq [.int .u64 (yn : Int), .slice yda ydl ydc, .slice ypa ypl ypc] (k * 3) w6
     have hN7 : ∀ i, i < min (k + 1) ps.length → HVt (((w6.setCell ⟨w.heap.size + 4, k * 3, none⟩ (.int .u64 (yn : Int))).setCell ⟨w.heap.size + 4, k * 3 + 1, none⟩ (.slice yda ydl ydc)).setCell ⟨w.heap.size + 4, k * 3 + 2, none⟩ (.slice ypa ypl ypc)) (fun b => w.heap.size + 4 < b) (gx (vs ++ [⟨yn, yda, ydl, ydc, ypa, ypl, ypc⟩]) i) (gvt ps i) := fun i hi => by
      rcases Nat.lt_or_ge i k with h6 | h6
      ·rw [gx_lo (by omega)]
       exact (hN.out i h6).keep (by omega) fun q h7 h8 => ⟨(hel q (by omega)).trans ((hb6.block q (by rw [hsz2.out]; exact h7)).trans (heap_setCell_other _ _ q _ (by show q ≠ w.heap.size + 4; omega))), h8⟩
      ·have h7 : i = k := by omega
       subst h7
       rw [show gx (vs ++ [⟨yn, yda, ydl, ydc, ypa, ypl, ypc⟩]) i = ⟨yn, yda, ydl, ydc, ypa, ypl, ypc⟩ from by rw [← hvl]; exact gx_hi]
       exact hy.keep (by omega) fun q h7 h8 => ⟨hel q (by rw [hsz2.out] at h8; omega), by rw [hsz2.out] at h8; omega⟩
     have A1 := hide hRn
     have A2 := hide hB7
     have A3 := hide hs7
     have A4 := hide hN7
     clear hRn hB7 hs7 hN7 hel hy hb6 r7 r6 hN hRp hB2 hsz2 hcl hzz hz4
     dsimp only
     go_wp2_with (fail)
     refine ⟨⟨k + 1, vs ++ [⟨yn, yda, ydl, ydc, ypa, ypl, ypc⟩], by omega, by push_cast; rfl, A2.out, by rw [A3.out]; omega, by simp; omega, A1.out, A4.out⟩, ?_⟩
     simp only [intOf]; omega
    ·have hd2 : (ps.length : Int) ≤ (k : Int) := by omega
     have hR2 := hR.mark (by omega) hlt
     have hN2 : ∀ i, i < min (k + 1) ps.length → HVt (wr.setCell ⟨w.heap.size + 4, k * 3, none⟩ (.int .u64 4711)) (fun b => w.heap.size + 4 < b) (gx vs i) (gvt ps i) := fun i hi => (hN i (by omega)).keep (by omega) fun q _ h2 => ⟨heap_setCell_other _ _ q _ (by show q ≠ w.heap.size + 4; omega), h2⟩
     clear hs ih hR hN hcc hcz hcv
     have A1 := hide hR2
     have A2 := hide hB2
     have A3 := hide hsz2
     have A4 := hide hN2
     clear hR2 hB2 hsz2 hN2 hB
     go_wp2_with (fail)
     refine ⟨⟨k + 1, vs, by omega, by push_cast; rfl, A2.out, by rw [A3.out]; omega, by rw [hvl]; omega, A1.out, A4.out⟩, ?_⟩
     simp only [intOf]; omega
   ·have hke : k = ps.length + 3 := by omega
    subst hke
    have hd' : ((ps.length : Int) + 3) ≤ ((ps.length + 3 : Nat) : Int) := by omega
    rw [Nat.min_eq_right (by omega)] at hvl hN
    have hz4 := hsz.out
    have rD1 := keep hB rD.out
    have r2 := keep hB q2.out
    have r1 := keep hB q1.out
    have k2 : wr.cell? ⟨w.heap.size + 1 + 1, 2, none⟩ = some (.slice none 0 0) := by rw [cell_of_row _ _ _ _ _ _ r2]; rfl
    have k3 : wr.frozen? ⟨w.heap.size + 1 + 1, 2, none⟩ = false := by simp [World.frozen?, r2]
    have s2 : (wr.setCell ⟨w.heap.size + 1 + 1, 2, none⟩ (.slice (some ⟨w.heap.size + 4, 0, none⟩) ps.length (ps.length + 3))).heap[w.heap.size + 1 + 1]? = some (.cells #[.int .u64 (n : Int), .slice (some ⟨w.heap.size + 3, 0, none⟩) dl (dl + 3), .slice (some ⟨w.heap.size + 4, 0, none⟩) ps.length (ps.length + 3)] 27 (0, 0)) := heap_setCell_same wr (w.heap.size + 1 + 1) 2 _ _ (.slice (some ⟨w.heap.size + 4, 0, none⟩) ps.length (ps.length + 3)) r2
    have s1 : (wr.setCell ⟨w.heap.size + 1 + 1, 2, none⟩ (.slice (some ⟨w.heap.size + 4, 0, none⟩) ps.length (ps.length + 3))).heap[w.heap.size + 1]? = _ := (heap_setCell_other _ _ (w.heap.size + 1) _ (by show w.heap.size + 1 ≠ w.heap.size + 1 + 1; omega)).trans r1
    have hb8 : Below w.heap.size w (wr.setCell ⟨w.heap.size + 1 + 1, 2, none⟩ (.slice (some ⟨w.heap.size + 4, 0, none⟩) ps.length (ps.length + 3))) := hwn.setCell (by show w.heap.size ≤ w.heap.size + 1 + 1; omega) _
    have hz8 : (wr.setCell ⟨w.heap.size + 1 + 1, 2, none⟩ (.slice (some ⟨w.heap.size + 4, 0, none⟩) ps.length (ps.length + 3))).heap.size = wr.heap.size := by simp
    have t1 := setRow_heap (wr.setCell ⟨w.heap.size + 1 + 1, 2, none⟩ (.slice (some ⟨w.heap.size + 4, 0, none⟩) ps.length (ps.length + 3))) (w.heap.size + 1) _ #[.int .u64 (n : Int), .slice (some ⟨w.heap.size + 3, 0, none⟩) dl (dl + 3), .slice (some ⟨w.heap.size + 4, 0, none⟩) ps.length (ps.length + 3)] _ _ s1
    have hb9 := below_setRow (g := w.heap.size + 1) hb8 (by omega) #[.int .u64 (n : Int), .slice (some ⟨w.heap.size + 3, 0, none⟩) dl (dl + 3), .slice (some ⟨w.heap.size + 4, 0, none⟩) ps.length (ps.length + 3)]
    have hz9 : ((wr.setCell ⟨w.heap.size + 1 + 1, 2, none⟩ (.slice (some ⟨w.heap.size + 4, 0, none⟩) ps.length (ps.length + 3))).setRow (w.heap.size + 1) #[.int .u64 (n : Int), .slice (some ⟨w.heap.size + 3, 0, none⟩) dl (dl + 3), .slice (some ⟨w.heap.size + 4, 0, none⟩) ps.length (ps.length + 3)]).heap.size = wr.heap.size := by simp
    have hel : ∀ q, w.heap.size + 3 ≤ q → ((wr.setCell ⟨w.heap.size + 1 + 1, 2, none⟩ (.slice (some ⟨w.heap.size + 4, 0, none⟩) ps.length (ps.length + 3))).setRow (w.heap.size + 1) #[.int .u64 (n : Int), .slice (some ⟨w.heap.size + 3, 0, none⟩) dl (dl + 3), .slice (some ⟨w.heap.size + 4, 0, none⟩) ps.length (ps.length + 3)]).heap[q]? = wr.heap[q]? := fun q hq => (setRow_other _ (w.heap.size + 1) q #[.int .u64 (n : Int), .slice (some ⟨w.heap.size + 3, 0, none⟩) dl (dl + 3), .slice (some ⟨w.heap.size + 4, 0, none⟩) ps.length (ps.length + 3)] (by omega)).trans (heap_setCell_other _ _ q _ (by show q ≠ w.heap.size + 1 + 1; omega))
    have hfin : HVt ((wr.setCell ⟨w.heap.size + 1 + 1, 2, none⟩ (.slice (some ⟨w.heap.size + 4, 0, none⟩) ps.length (ps.length + 3))).setRow (w.heap.size + 1) #[.int .u64 (n : Int), .slice (some ⟨w.heap.size + 3, 0, none⟩) dl (dl + 3), .slice (some ⟨w.heap.size + 4, 0, none⟩) ps.length (ps.length + 3)]) (fun b => w.heap.size ≤ b) ⟨n, some ⟨w.heap.size + 3, 0, none⟩, bs.length, bs.length + 3, some ⟨w.heap.size + 4, 0, none⟩, ps.length, ps.length + 3⟩ (.mk n bs ps) := by
     have hg : ∀ i, i < ps.length + 3 → ((wr.setCell ⟨w.heap.size + 1 + 1, 2, none⟩ (.slice (some ⟨w.heap.size + 4, 0, none⟩) ps.length (ps.length + 3))).setRow (w.heap.size + 1) #[.int .u64 (n : Int), .slice (some ⟨w.heap.size + 3, 0, none⟩) dl (dl + 3), .slice (some ⟨w.heap.size + 4, 0, none⟩) ps.length (ps.length + 3)]).rangeAt (w.heap.size + 4) (i * 3) (pvw ps.length vs (ps.length + 3) i) := fun i hi => range_same (hR.range hi) (hel _ (by omega))
     refine .mk n (w.heap.size + 3) (w.heap.size + 4) bs vs ps hn h1 h2 (by omega) (by omega) (by omega) (by omega) ((hel _ (by omega)).trans rD1) hvl (fun i hi => ?_) (fun i h1 h2 => ?_) (fun i hi => (hN i hi).keep (by omega) fun q _ h2 => ⟨hel q (by omega), by omega⟩)
     ·have := hg i (by omega)
      rwa [show pvw ps.length vs (ps.length + 3) i = (vrv (gx vs i)).toList by unfold pvw; rw [if_pos (by omega), if_pos hi]] at this
     ·have := hg i h2
      rwa [show pvw ps.length vs (ps.length + 3) i = pmk by unfold pvw; rw [if_pos (by omega), if_neg (by omega)]] at this
    have hone : (#[Value.int .u64 (n : Int), .slice (some ⟨w.heap.size + 3, 0, none⟩) dl (dl + 3), .slice (some ⟨w.heap.size + 4, 0, none⟩) ps.length (ps.length + 3)] : Array Value).all (·.oneCell') = true := by simp [Value.oneCell']
    have A1 := hide hb9
    have A2 := hide hfin
    have A3 := hide t1
    have A4 := hide s2
    have A5 := hide s1
    clear hs ih hR hN hB hb9 hfin t1 hel hb8 r1 r2 rD1 s1 s2 hz8 hz9
    go_upto_region 17 with (fail)
    have s2 := A4.out
    have s1 := A5.out
    generalize wr.setCell ⟨w.heap.size + 1 + 1, 2, none⟩ (.slice (some ⟨w.heap.size + 4, 0, none⟩) ps.length (ps.length + 3)) = w8 at *
    go_wp2_with (first | (refine wpList_load_want rfl 27 _ rfl (w.heap.size + 1 + 1) rfl 27 _ (0, 0) _ s2 Tryz.underlying27 rfl infoV ?_) | (refine wpList_store_row rfl 27 _ _ rfl (w.heap.size + 1) #[.int .u64 (n : Int), .slice (some ⟨w.heap.size + 3, 0, none⟩) dl (dl + 3), .slice (some ⟨w.heap.size + 4, 0, none⟩) ps.length (ps.length + 3)] rfl rfl 27 _ s1 infoV rfl hone ?_) | fail)
    have hdl := hdlh.out
    subst hdl
    exact bodyPost_ret (v := .agg #[.int .u64 (n : Int), .slice (some ⟨w.heap.size + 3, 0, none⟩) bs.length (bs.length + 3), .slice (some ⟨w.heap.size + 4, 0, none⟩) ps.length (ps.length + 3)]) (results_cell_row Tryz.results10 _ _ (w.heap.size + 1) _ _ _ _ rfl A3.out Tryz.underlying27 rfl infoV) rfl ⟨_, rfl, A1.out, A2.out⟩
end Go.Proofs.YtejcggjmbjmoeaaGreatDoor
namespace Go.Proofs.YtejcggjmbjmoeaaGreatDoor
set_option maxRecDepth 100000
open Go Go.RowKit Go.Sort
attribute [local go_sem] setCell_drewN alloc_drewN
theorem conv_byT {W : World} {v : Value} {bs : List Int} (h : Bys W v bs) : (convert 24 9 v).run Tryz.prog W = .ok (.string (strOfNums bs)) W := by
 obtain ⟨ao, cap, rfl, _, hc, _⟩ := h
 cases ao with
 | none =>
  have : bs = [] := by
   cases bs with
   | nil => rfl
   | cons x xs => obtain ⟨b, off, e, _⟩ := hc 0 (by simp); cases e
  subst this
  exact run_convert_bytes_nil W 24 5 Tryz.underlying24 Tryz.underlying5 _ _ 9 Tryz.underlying9
 | some ad =>
  rcases Nat.eq_zero_or_pos bs.length with e0 | e0
  ·have : bs = [] := List.eq_nil_of_length_eq_zero e0
   subst this
   obtain ⟨b, off, sp⟩ := ad
   rw [run_convert_bytes_string W 24 9 5 _ _ _ Tryz.underlying24 Tryz.underlying5 Tryz.underlying9]
   have := run_bytesToString (P := Tryz.prog) W ⟨b, off, sp⟩ 0 cap [] (by rfl)
   exact this
  ·obtain ⟨b, off, e, _⟩ := hc 0 e0
   cases e
   exact run_convert_bytes_arg W 24 5 Tryz.underlying24 Tryz.underlying5 b off bs.length cap bs rfl (fun i hi => by
    obtain ⟨b', off', e, _, h⟩ := hc i hi
    cases e
    exact h) 9 Tryz.underlying9
end Go.Proofs.YtejcggjmbjmoeaaGreatDoor
namespace Go.Proofs.YtejcggjmbjmoeaaGreatDoor
set_option maxRecDepth 100000
open Go Go.RowKit Go.Sort
attribute [local go_sem] setCell_drewN alloc_drewN
theorem mark_get (d : List B) (i : Nat) (hi : i < 3) : (bl d ++ [7, 8, 9]).getD (d.length + i) 0 = 7 + (i : Int) := by
 rw [List.getD_eq_getElem?_getD, List.getElem?_append_right (by rw [bl_len]; omega), bl_len, Nat.add_sub_cancel_left]
 rcases (by omega : i = 0 ∨ i = 1 ∨ i = 2) with rfl | rfl | rfl <;> rfl
set_option maxRecDepth 100000 in
set_option maxHeartbeats 16000000 in
theorem l_leftV {W : World} {S : Nat → Prop} {y : VR} {X : VT} (hh : HVt W S y X) : ∀ (T : Nat → Prop) (x : VR), VtM W T x X → ∀ (w : World), Below W.heap.size W w → Calls Tryz.prog 14 #[.agg (vrv y), .agg (vrv x)] w fun e w' => e = .returned (.bool true) ∧ Below w.heap.size w w' := by
 induction hh with
 | mk n D G d ys ps hn hd hp hD hSD hG hSG hc hx h hm hs ih =>
  intro T x hv w hw
  obtain ⟨v1, v2, v3, v4, v5⟩ := hv.num_eq
  obtain ⟨xs, hP⟩ := hv.split
  have hxd : BysB W (.slice x.da x.dl x.dc) d := by
   cases hv with
   | mk x bs xs ps hn hdl hbl hd hdc hds hpl hxl hpc hpm hps hP hs => exact hd
  clear hv
  replace hP : PtM W T (.slice x.pa x.pl x.pc) xs ps := hP
  obtain ⟨xn, xda, xdl, xdc, xpa, xpl, xpc⟩ := x
  obtain rfl : xn = n := v1
  obtain rfl : xdl = d.length := v3
  obtain rfl : xpl = ps.length := v5
  clear v2 v4
  obtain ⟨pa_, pc_, ep, hxl, hpc, hpm, hpr, hVs⟩ := hP
  injection ep with ep1 ep2 ep3
  subst ep1 ep3
  unfold vrv vrw
  have hb : Below w.heap.size w ((w.alloc (.cells #[.int .u64 (xn : Int), .slice (some ⟨D, 0, none⟩) d.length (d.length + 3), .slice (some ⟨G, 0, none⟩) ps.length (ps.length + 3)] 27)).alloc (.cells #[.int .u64 (xn : Int), .slice xda d.length xdc, .slice xpa ps.length xpc] 27)) := ((Below.refl _ _).alloc (Nat.le_refl _) _).alloc (by simp) _
  have r0 := hp2_0 w (.cells #[.int .u64 (xn : Int), .slice (some ⟨D, 0, none⟩) d.length (d.length + 3), .slice (some ⟨G, 0, none⟩) ps.length (ps.length + 3)] 27) (.cells #[.int .u64 (xn : Int), .slice xda d.length xdc, .slice xpa ps.length xpc] 27)
  have r1 := hp2_1 w (.cells #[.int .u64 (xn : Int), .slice (some ⟨D, 0, none⟩) d.length (d.length + 3), .slice (some ⟨G, 0, none⟩) ps.length (ps.length + 3)] 27) (.cells #[.int .u64 (xn : Int), .slice xda d.length xdc, .slice xpa ps.length xpc] 27)
  have hWb := Below.after hw hb
  have hcw := keep hWb hc
  have kX := conv_byT (head_bysV hcw rfl (by omega) (d.length + 3)).1
  have kY := conv_byT (hxd.keep hWb).1
  clear hxd
  go_enter Tryz.func14, Tryz.ntmps14
  go_upto_region 1 with (fail)
  generalize (w.alloc (.cells #[.int .u64 (xn : Int), .slice (some ⟨D, 0, none⟩) d.length (d.length + 3), .slice (some ⟨G, 0, none⟩) ps.length (ps.length + 3)] 27)).alloc (.cells #[.int .u64 (xn : Int), .slice xda d.length xdc, .slice xpa ps.length xpc] 27) = w2 at *
  have c0 := cell_of_row _ _ 0 _ _ _ r0
  have c1 := cell_of_row _ _ 1 _ _ _ r0
  have c2 := cell_of_row _ _ 2 _ _ _ r0
  have e0 := cell_of_row _ _ 0 _ _ _ r1
  have e1 := cell_of_row _ _ 1 _ _ _ r1
  have e2 := cell_of_row _ _ 2 _ _ _ r1
  generalize strOfNums (bl d) = sd at *
  have hdw : (d.length : Int) ≤ 640063 := by omega
  have hpw : (ps.length : Int) ≤ 10000 := by omega
  replace hcw := hide hcw
  replace hm := hide hm
  go_upto_region 5 with (fail)
  have hmk : ∀ i, i < 3 → w2.rangeAt G ((ps.length + i) * 3) pmk := fun i hi => rangeS_keep2 (hm.out (ps.length + i) (by omega) (by omega)) hWb hG
  have d0 : w2.cell? ⟨D, d.length, none⟩ = some (.int .u8 7) := by rw [show d.length = d.length + 0 from rfl, irow_cell hcw.out (by simp [bl_len]; try omega), mark_get d 0 (by omega)]; rfl
  have g0 : w2.cell? ⟨G, ps.length * 3, none⟩ = some (.int .u64 4711) := by have := hmk 0 (by omega) 0 _ rfl; simpa using this
  have p0 : w2.cell? ⟨G, ps.length * 3 + 2, none⟩ = some (.slice none 0 0) := hmk 0 (by omega) 2 _ rfl
  have d1 : w2.cell? ⟨D, d.length + 1, none⟩ = some (.int .u8 8) := by rw [show d.length + 1 = d.length + 1 from rfl, irow_cell hcw.out (by simp [bl_len]; try omega), mark_get d 1 (by omega)]; rfl
  have g1 : w2.cell? ⟨G, (ps.length + 1) * 3, none⟩ = some (.int .u64 4711) := by have := hmk 1 (by omega) 0 _ rfl; simpa using this
  have p1 : w2.cell? ⟨G, (ps.length + 1) * 3 + 2, none⟩ = some (.slice none 0 0) := hmk 1 (by omega) 2 _ rfl
  have d2 : w2.cell? ⟨D, d.length + 2, none⟩ = some (.int .u8 9) := by rw [show d.length + 2 = d.length + 2 from rfl, irow_cell hcw.out (by simp [bl_len]; try omega), mark_get d 2 (by omega)]; rfl
  have g2 : w2.cell? ⟨G, (ps.length + 2) * 3, none⟩ = some (.int .u64 4711) := by have := hmk 2 (by omega) 0 _ rfl; simpa using this
  have p2 : w2.cell? ⟨G, (ps.length + 2) * 3 + 2, none⟩ = some (.slice none 0 0) := hmk 2 (by omega) 2 _ rfl
  have hwi : ∀ i : Int, True := fun _ => trivial
  clear hmk hwi
  go_wp2_with (fail)
  refine wp_loop_rounds 4 ?_
  rw [rounds_succ]
  go_wp2_with (fail)
  rw [rounds_succ]
  go_wp2_with (fail)
  rw [rounds_succ]
  go_wp2_with (fail)
  rw [rounds_succ]
  go_wp2_with (fail)
  clear d0 d1 d2 g0 g1 g2 p0 p1 p2 c0 c1 c2 e0 e1 e2 kX kY
  go_loopw [8] (fun i wr => ∃ k : Nat, k ≤ ps.length ∧ i = .int .i64 k ∧ Below w2.heap.size w2 wr) (fun i _ => ps.length - (intOf i).toNat)
  case atStart => exact ⟨0, by omega, rfl, Below.refl _ _⟩
  case round =>
   obtain ⟨k, hk, rfl, hby⟩ := hrel
   have hWr := Below.after hWb hby
   have rB := keep hby r1
   have cx : wr.cell? ⟨w.heap.size + 1, 2, none⟩ = some (.slice xpa ps.length xpc) := by rw [cell_of_row _ _ _ _ _ _ rB]; rfl
   by_cases hlt : k < ps.length
   ·have hd2 : (k : Int) < (ps.length : Int) := by omega
    have hi9 : 0 ≤ (k : Int) ∧ (k : Int) < (ps.length : Int) := by omega
    have hi8 : 0 ≤ (k : Int) ∧ (k : Int) < (ps.length : Int) + 3 := by omega
    obtain ⟨b, off, hxe, hbl, hra⟩ := hpr k hlt
    have hrk := rangeS_keep2 (h k hlt) hWr hG
    have hra2 := rangeS_keep2 hra hWr hbl
    have cI : GivesB wr 14 #[.agg (vrv (gx ys k)), .agg (vrv (gx xs k))] (.bool true) := fun V hV => ih k hlt T (gx xs k) (hVs k hlt) V (Below.after hWr hV)
    generalize gx ys k = y at *
    generalize gx xs k = x at *
    obtain ⟨yn, yda, ydl, ydc, ypa, ypl, ypc⟩ := y
    obtain ⟨zn, zda, zdl, zdc, zpa, zpl, zpc⟩ := x
    unfold vrv vrw at hrk hra2 cI
    subst hxe
    have x0 : ∀ p : Regrown, (grow (redrawn wr p.d) p.os).cell? ⟨G, k * 3, none⟩ = _ := fun p => cell_regrown (hrk 0 _ rfl) p.d p.os
    have x1 : ∀ p : Regrown, (grow (redrawn wr p.d) p.os).cell? ⟨G, k * 3 + 1, none⟩ = _ := fun p => cell_regrown (hrk 1 _ rfl) p.d p.os
    have x2 : ∀ p : Regrown, (grow (redrawn wr p.d) p.os).cell? ⟨G, k * 3 + 2, none⟩ = _ := fun p => cell_regrown (hrk 2 _ rfl) p.d p.os
    have y0 : ∀ p : Regrown, (grow (redrawn wr p.d) p.os).cell? ⟨b, off + k * 3, none⟩ = _ := fun p => cell_regrown (hra2 0 _ rfl) p.d p.os
    have y1 : ∀ p : Regrown, (grow (redrawn wr p.d) p.os).cell? ⟨b, off + k * 3 + 1, none⟩ = _ := fun p => cell_regrown (hra2 1 _ rfl) p.d p.os
    have y2 : ∀ p : Regrown, (grow (redrawn wr p.d) p.os).cell? ⟨b, off + k * 3 + 2, none⟩ = _ := fun p => cell_regrown (hra2 2 _ rfl) p.d p.os
    have z2 : ∀ p : Regrown, (grow (redrawn wr p.d) p.os).cell? ⟨w.heap.size + 1, 2, none⟩ = _ := fun p => cell_regrown cx p.d p.os
    clear hrk hra hra2 hpr hVs ih hs h rB
    go_wp2_with (fail)
    clear cx
    refine wp_region_quiet_below (by kernel_rfl) (by kernel_rfl) ?_
    go_big_quiet_step (fail)
    go_big_quiet_step (fail)
    go_big_quiet_step (fail)
    go_big_quiet_step (fail)
    go_big_quiet_step (fail)
    go_big_quiet_step (fail)
    go_big_quiet_step (fail)
    go_big_quiet_step (fail)
    go_big_quiet_step (fail)
    go_big_quiet_step (exact cI.re)
    go_big_quiet_step (fail)
    refine wpQuiet_nil ?_
    rintro _ ⟨p, rfl⟩
    have hbq := below_regrown wr p.d p.os
    generalize grow (redrawn wr p.d) p.os = wn at *
    clear x0 x1 x2 y0 y1 y2 z2 cI
    go_wp2_with (fail)
    exact ⟨⟨k + 1, by omega, by push_cast; rfl, Below.after hby hbq⟩, by simp only [intOf]; omega⟩
   ·obtain rfl : k = ps.length := by omega
    have hd2 : (ps.length : Int) ≤ (ps.length : Int) := Int.le_refl _
    clear hpr hVs ih hs h
    go_wp2_with (fail)
    go_ret
    exact ⟨rfl, Below.after hb hby⟩
end Go.Proofs.YtejcggjmbjmoeaaGreatDoor
namespace Go.Proofs.YtejcggjmbjmoeaaGreatDoor
set_option maxRecDepth 100000
open Go Go.RowKit Go.Sort
/-! UTF-8 as the document has it, against the library's. -/
def gN (d : List B) (i : Nat) : Nat := (d.getD i 0).toNat
theorem gN_lt (d : List B) (i : Nat) : gN d i < 256 := (d.getD i 0).isLt
theorem gN_u8 (d : List B) (i : Nat) : ((u8l d).getD i 0).toNat = gN d i := by
 unfold u8l gN
 rw [List.getD_eq_getElem?_getD, List.getD_eq_getElem?_getD, List.getElem?_map]
 cases d[i]? <;> rfl
theorem yu8l_drop (d : List B) (k : Nat) : (u8l d).drop k = u8l (d.drop k) := by unfold u8l; rw [List.map_drop]
theorem yu8l_ne {d : List B} (h : d ≠ []) : u8l d ≠ [] := by
 cases d with
 | nil => exact absurd rfl h
 | cons x t => unfold u8l; simp
theorem yutD_1 {d : List B} (h : d ≠ []) (h0 : gN d 0 < 128) : utD d = utD (d.drop 1) := by
 cases d with
 | nil => exact absurd rfl h
 | cons x t => exact Lib.validD_cons (UInt8.ofBitVec x) (u8l t) h0
theorem yutD_lead {d : List B} (h : d ≠ []) (h0 : 128 ≤ gN d 0) : utD d = match Lib.checkN d.length (gN d 1) (gN d 2) (gN d 3) (Lib.firstT (gN d 0) % 8) (Lib.accLo (Lib.firstT (gN d 0) / 16)) (Lib.accHi (Lib.firstT (gN d 0) / 16)) with
 | none => false
 | some k => utD (d.drop k) := by
 have e := Lib.validD_lead (u8l d) (yu8l_ne h) (by rw [gN_u8]; exact h0)
 rw [gN_u8, gN_u8, gN_u8, gN_u8, show (u8l d).length = d.length from by unfold u8l; simp] at e
 unfold utD
 rw [e]
 cases Lib.checkN d.length (gN d 1) (gN d 2) (gN d 3) (Lib.firstT (gN d 0) % 8) (Lib.accLo (Lib.firstT (gN d 0) / 16)) (Lib.accHi (Lib.firstT (gN d 0) / 16)) with
 | none => rfl
 | some k => simp only [yu8l_drop]
theorem yutD_x {d : List B} (h : d ≠ []) (h0 : 128 ≤ gN d 0) (h1 : gN d 0 < 192 ∨ 248 ≤ gN d 0) : utD d = false := by
 rw [yutD_lead h h0]
 have hf : Lib.firstT (gN d 0) = 241 := by
  unfold Lib.firstT
  repeat' split
  all_goals omega
 rw [hf]
 rfl
theorem yutD_of {d : List B} (h : d ≠ []) (h0 : 128 ≤ gN d 0) (C : Prop) [Decidable C] {k : Nat} (hk : Lib.checkN d.length (gN d 1) (gN d 2) (gN d 3) (Lib.firstT (gN d 0) % 8) (Lib.accLo (Lib.firstT (gN d 0) / 16)) (Lib.accHi (Lib.firstT (gN d 0) / 16)) = if C then none else some k) : utD d = if C then false else utD (d.drop k) := by
 rw [yutD_lead h h0, hk]
 by_cases q : C
 ·rw [if_pos q, if_pos q]
 ·rw [if_neg q, if_neg q]
theorem ck_2 (d : List B) (fl lo hi : Nat) (C : Prop) [Decidable C] (e1 : Lib.firstT (gN d 0) = fl) (e2 : fl % 8 = 2) (e3 : Lib.accLo (fl / 16) = lo) (e4 : Lib.accHi (fl / 16) = hi) (hiff : (d.length < 2 ∨ gN d 1 < lo ∨ hi < gN d 1) ↔ C) : Lib.checkN d.length (gN d 1) (gN d 2) (gN d 3) (Lib.firstT (gN d 0) % 8) (Lib.accLo (Lib.firstT (gN d 0) / 16)) (Lib.accHi (Lib.firstT (gN d 0) / 16)) = if C then none else some 2 := by
 rw [e1, e2, e3, e4]
 show (if d.length < 2 ∨ gN d 1 < lo ∨ hi < gN d 1 then none else some 2) = _
 by_cases q : C
 ·rw [if_pos q, if_pos (hiff.2 q)]
 ·rw [if_neg q, if_neg (fun z => q (hiff.1 z))]
theorem ck_3 (d : List B) (fl lo hi : Nat) (C : Prop) [Decidable C] (e1 : Lib.firstT (gN d 0) = fl) (e2 : fl % 8 = 3) (e3 : Lib.accLo (fl / 16) = lo) (e4 : Lib.accHi (fl / 16) = hi) (hiff : (d.length < 3 ∨ gN d 1 < lo ∨ hi < gN d 1 ∨ gN d 2 < 128 ∨ 191 < gN d 2) ↔ C) : Lib.checkN d.length (gN d 1) (gN d 2) (gN d 3) (Lib.firstT (gN d 0) % 8) (Lib.accLo (Lib.firstT (gN d 0) / 16)) (Lib.accHi (Lib.firstT (gN d 0) / 16)) = if C then none else some 3 := by
 rw [e1, e2, e3, e4]
 show (if d.length < 3 ∨ gN d 1 < lo ∨ hi < gN d 1 ∨ gN d 2 < 128 ∨ 191 < gN d 2 then none else some 3) = _
 by_cases q : C
 ·rw [if_pos q, if_pos (hiff.2 q)]
 ·rw [if_neg q, if_neg (fun z => q (hiff.1 z))]
theorem ck_4 (d : List B) (fl lo hi : Nat) (C : Prop) [Decidable C] (e1 : Lib.firstT (gN d 0) = fl) (e2 : fl % 8 = 4) (e3 : Lib.accLo (fl / 16) = lo) (e4 : Lib.accHi (fl / 16) = hi) (hiff : (d.length < 4 ∨ gN d 1 < lo ∨ hi < gN d 1 ∨ gN d 2 < 128 ∨ 191 < gN d 2 ∨ gN d 3 < 128 ∨ 191 < gN d 3) ↔ C) : Lib.checkN d.length (gN d 1) (gN d 2) (gN d 3) (Lib.firstT (gN d 0) % 8) (Lib.accLo (Lib.firstT (gN d 0) / 16)) (Lib.accHi (Lib.firstT (gN d 0) / 16)) = if C then none else some 4 := by
 rw [e1, e2, e3, e4]
 show (if d.length < 4 ∨ gN d 1 < lo ∨ hi < gN d 1 ∨ gN d 2 < 128 ∨ 191 < gN d 2 ∨ gN d 3 < 128 ∨ 191 < gN d 3 then none else some 4) = _
 by_cases q : C
 ·rw [if_pos q, if_pos (hiff.2 q)]
 ·rw [if_neg q, if_neg (fun z => q (hiff.1 z))]
theorem ck_x (d : List B) (C : Prop) [Decidable C] (n : Nat) (e1 : Lib.firstT (gN d 0) = 241) (hC : C) : Lib.checkN d.length (gN d 1) (gN d 2) (gN d 3) (Lib.firstT (gN d 0) % 8) (Lib.accLo (Lib.firstT (gN d 0) / 16)) (Lib.accHi (Lib.firstT (gN d 0) / 16)) = if C then none else some n := by
 rw [e1, if_pos hC]
 rfl
theorem yutD_2 {d : List B} (h : d ≠ []) (h0 : 192 ≤ gN d 0) (h1 : gN d 0 < 224) : utD d = if d.length < 2 ∨ gN d 1 < 128 ∨ 192 ≤ gN d 1 ∨ (gN d 0 - 192) * 64 + (gN d 1 - 128) < 128 then false else utD (d.drop 2) := by
 have g1 := gN_lt d 1
 refine yutD_of h (by omega) (d.length < 2 ∨ gN d 1 < 128 ∨ 192 ≤ gN d 1 ∨ (gN d 0 - 192) * 64 + (gN d 1 - 128) < 128) ?_
 by_cases q : gN d 0 < 194
 ·exact ck_x d _ 2 (by unfold Lib.firstT; rw [if_neg (by omega), if_pos q]) (by omega)
 ·exact ck_2 d 2 128 191 _ (by unfold Lib.firstT; rw [if_neg (by omega), if_neg q, if_pos h1]) rfl rfl rfl (by omega)
theorem yutD_3 {d : List B} (h : d ≠ []) (h0 : 224 ≤ gN d 0) (h1 : gN d 0 < 240) : utD d = if d.length < 3 ∨ gN d 1 < 128 ∨ 192 ≤ gN d 1 ∨ gN d 2 < 128 ∨ 192 ≤ gN d 2 ∨ ((gN d 0 - 224) * 64 + (gN d 1 - 128)) * 64 + (gN d 2 - 128) < 2048 ∨ (55296 ≤ ((gN d 0 - 224) * 64 + (gN d 1 - 128)) * 64 + (gN d 2 - 128) ∧ ((gN d 0 - 224) * 64 + (gN d 1 - 128)) * 64 + (gN d 2 - 128) ≤ 57343) then false else utD (d.drop 3) := by
 have g1 := gN_lt d 1
 have g2 := gN_lt d 2
 refine yutD_of h (by omega) (d.length < 3 ∨ gN d 1 < 128 ∨ 192 ≤ gN d 1 ∨ gN d 2 < 128 ∨ 192 ≤ gN d 2 ∨ ((gN d 0 - 224) * 64 + (gN d 1 - 128)) * 64 + (gN d 2 - 128) < 2048 ∨ (55296 ≤ ((gN d 0 - 224) * 64 + (gN d 1 - 128)) * 64 + (gN d 2 - 128) ∧ ((gN d 0 - 224) * 64 + (gN d 1 - 128)) * 64 + (gN d 2 - 128) ≤ 57343)) ?_
 by_cases c1 : gN d 0 = 224
 ·exact ck_3 d 19 160 191 _ (by rw [c1]; decide) rfl rfl rfl (by omega)
 by_cases c2 : gN d 0 < 237
 ·exact ck_3 d 3 128 191 _ (by simp [Lib.firstT, show ¬ gN d 0 < 128 by omega, show ¬ gN d 0 < 194 by omega, show ¬ gN d 0 < 224 by omega, c1, c2]) rfl rfl rfl (by omega)
 by_cases c3 : gN d 0 = 237
 ·exact ck_3 d 35 128 159 _ (by rw [c3]; decide) rfl rfl rfl (by omega)
 ·exact ck_3 d 3 128 191 _ (by simp [Lib.firstT, show ¬ gN d 0 < 128 by omega, show ¬ gN d 0 < 194 by omega, show ¬ gN d 0 < 224 by omega, c1, c2, c3, h1]) rfl rfl rfl (by omega)
theorem yutD_4 {d : List B} (h : d ≠ []) (h0 : 240 ≤ gN d 0) (h1 : gN d 0 < 248) : utD d = if d.length < 4 ∨ gN d 1 < 128 ∨ 192 ≤ gN d 1 ∨ gN d 2 < 128 ∨ 192 ≤ gN d 2 ∨ gN d 3 < 128 ∨ 192 ≤ gN d 3 ∨ (((gN d 0 - 240) * 64 + (gN d 1 - 128)) * 64 + (gN d 2 - 128)) * 64 + (gN d 3 - 128) < 65536 ∨ 1114111 < (((gN d 0 - 240) * 64 + (gN d 1 - 128)) * 64 + (gN d 2 - 128)) * 64 + (gN d 3 - 128) then false else utD (d.drop 4) := by
 have g1 := gN_lt d 1
 have g2 := gN_lt d 2
 have g3 := gN_lt d 3
 refine yutD_of h (by omega) (d.length < 4 ∨ gN d 1 < 128 ∨ 192 ≤ gN d 1 ∨ gN d 2 < 128 ∨ 192 ≤ gN d 2 ∨ gN d 3 < 128 ∨ 192 ≤ gN d 3 ∨ (((gN d 0 - 240) * 64 + (gN d 1 - 128)) * 64 + (gN d 2 - 128)) * 64 + (gN d 3 - 128) < 65536 ∨ 1114111 < (((gN d 0 - 240) * 64 + (gN d 1 - 128)) * 64 + (gN d 2 - 128)) * 64 + (gN d 3 - 128)) ?_
 by_cases c1 : gN d 0 = 240
 ·exact ck_4 d 52 144 191 _ (by rw [c1]; decide) rfl rfl rfl (by omega)
 by_cases c2 : gN d 0 < 244
 ·exact ck_4 d 4 128 191 _ (by simp [Lib.firstT, show ¬ gN d 0 < 128 by omega, show ¬ gN d 0 < 194 by omega, show ¬ gN d 0 < 224 by omega, show ¬ gN d 0 = 224 by omega, show ¬ gN d 0 < 237 by omega, show ¬ gN d 0 = 237 by omega, show ¬ gN d 0 < 240 by omega, c1, c2]) rfl rfl rfl (by omega)
 by_cases c3 : gN d 0 = 244
 ·exact ck_4 d 68 128 143 _ (by rw [c3]; decide) rfl rfl rfl (by omega)
 ·exact ck_x d _ 4 (by simp [Lib.firstT, show ¬ gN d 0 < 128 by omega, show ¬ gN d 0 < 194 by omega, show ¬ gN d 0 < 224 by omega, show ¬ gN d 0 = 224 by omega, show ¬ gN d 0 < 237 by omega, show ¬ gN d 0 = 237 by omega, show ¬ gN d 0 < 240 by omega, c1, c2, c3]) (by omega)
end Go.Proofs.YtejcggjmbjmoeaaGreatDoor

