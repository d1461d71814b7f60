import Derived.Test.YtdcpcdkbhgkmlaaDoorDDse
import Derived.Test.YtdcpcdkbhgkmlaaDoorProg
import Derived.WalkKit
import Derived.WalkSpells
import Derived.WalkLawsBesides
import Derived.Lib.QuietBelow
import Derived.BigQuiet
import Derived.Test.YtdcpcdkbhgkmlaaDoorDOpen
namespace Go.Proofs.YtdcpcdkbhgkmlaaDoor
set_option maxRecDepth 100000
open Go Go.RowKit Go.Sort
def b32 (N : Int) : List Int := [byt N 0, byt N 1, byt N 2, byt N 3, byt N 4, byt N 5, byt N 6, byt N 7, byt N 8, byt N 9, byt N 10, byt N 11, byt N 12, byt N 13, byt N 14, byt N 15, byt N 16, byt N 17, byt N 18, byt N 19, byt N 20, byt N 21, byt N 22, byt N 23, byt N 24, byt N 25, byt N 26, byt N 27, byt N 28, byt N 29, byt N 30, byt N 31]
theorem kb_b32 (N : Int) : kb N = ((b32 N).map (Value.int .u8)).toArray := rfl
theorem b32_bd (N : Int) : ∀ z ∈ b32 N, 0 ≤ z ∧ z < 256 := by
 intro z hz
 simp only [b32, List.mem_cons, List.not_mem_nil, or_false] at hz
 rcases hz with rfl | rfl | rfl | rfl | rfl | rfl | rfl | rfl | rfl | rfl | rfl | rfl | rfl | rfl | rfl | rfl | rfl | rfl | rfl | rfl | rfl | rfl | rfl | rfl | rfl | rfl | rfl | rfl | rfl | rfl | rfl | rfl <;> exact byt_bd N _
theorem bval_valB : ∀ l : List Int, (∀ z ∈ l, 0 ≤ z ∧ z < 256) → (bval l : Int) = valB l
 | [], _ => rfl
 | z :: l, h => by
  have ih := bval_valB l (fun y hy => h y (List.mem_cons_of_mem _ hy))
  have hz := h z (by simp)
  simp only [bval, valB]
  omega
theorem bval_b32 (N : Int) (h0 : 0 ≤ N) (h1 : N < 115792089237316195423570985008687907853269984665640564039457584007913129639936) : bval (b32 N) = N.toNat := by
 have e := bval_valB (b32 N) (b32_bd N)
 have v : valB (b32 N) = N := valB_byt N h0 h1
 rw [v] at e
 omega
theorem bys_row {w : World} {g : Nat} {N : Int} {t : TypeId} (r : w.heap[g]? = some (.cells (kb N) t (0, 0))) (_h : KeyOf (kb N) N) : Bys w (.slice (some ⟨g, 0, none⟩) 32 32) (b32 N) := by
 refine ⟨some ⟨g, 0, none⟩, 32, rfl, (by show 32 ≤ _; decide), fun j hj => ⟨g, 0, rfl, lt_of_row r, ?_⟩, b32_bd N⟩
 rw [Nat.zero_add, cell_of_row w g j _ _ _ r, kb_b32]
 rw [List.getElem?_toArray, List.getElem?_map, List.getElem?_eq_getElem hj, List.getD_eq_getElem?_getD, List.getElem?_eq_getElem hj]
 rfl
theorem keepc {w : World} {g o : Nat} {v : Value} (h : w.cell? ⟨g, o, none⟩ = some v) : Hid (∀ W, (∃ p : Regrown, W = grow (redrawn w p.d) p.os) → W.cell? ⟨g, o, none⟩ = some v) := by
 rintro W ⟨p, rfl⟩
 have hb := below_regrown w p.d p.os
 have hg : g < w.heap.size := by
  rcases Nat.lt_or_ge g w.heap.size with q | q
  ·exact q
  ·simp [World.cell?, Array.getElem?_eq_none q] at h
 exact (hb.cell (p := ⟨g, o, none⟩) hg).trans h
theorem wpQuiet_load_cell31 {P : Program} {C : World → Prop} {ops : Array Oper} {Q : Act → Prop} {a : Act} {o : Oper} {rest : List Oper} (hw : Region.wanted o (yielded ops a.tmps) = true) (ty : TypeId) (x : Operand) (ho : o.op = .load ty x)
 (g off : Nat) (hx : a.eval x = .pointer (some ⟨g, off, none⟩)) (v : Value) (hc : ∀ w, C w → w.cell? ⟨g, off, none⟩ = some v) {k : IntKind} (hu : P.underlying ty = some (.int k))
 (h : wpQuiet P ops C Q rest (a.put o.dst v)) : wpQuiet P ops C Q (o :: rest) a := by
 refine BigFrame.wpQuiet_want hw fun K hK => ⟨v, fun w hw => ?_, hK _ h⟩
 unfold Oper.quietAt execOp
 simp only [ho, hx, Instr.loadAt, Instr.sureAddr, Sem.run_bind, Sem.run_pure, Result.andThen_ok, run_loadVar_int w g off ty v (hc w hw) hu]
 exact ⟨by simp, rfl⟩
end Go.Proofs.YtdcpcdkbhgkmlaaDoor
namespace Go.Proofs.YtdcpcdkbhgkmlaaDoor
set_option maxRecDepth 100000
open Go.RowKit Go.Sort
attribute [local go_sem] setCell_drewN alloc_drewN
theorem by_step {A t z : Int} : (256 * (A * t % L19) + z * A) % L19 = A * (t * 256 + z) % L19 := by
 have e : A * (t * 256 + z) = 256 * (A * t) + z * A := by grind
 rw [e, Int.add_emod, Int.mul_emod 256, Int.emod_emod, ← Int.mul_emod, ← Int.add_emod]
theorem mod_L (x : Int) : 0 ≤ x % L19 ∧ x % L19 < L19 := by unfold L19; omega
set_option maxHeartbeats 8000000 in
set_option maxRecDepth 100000 in
theorem by_walk {xA : Array Value} {bs : List Int} (oA : WdO xA) (fR : Nat → Array Value) (oR : ∀ k, WdO (fR k)) (h0 : fR 0 = #[.int .u64 0, .int .u64 0, .int .u64 0, .int .u64 0]) (w : World) (ev : Value) (hF : Ord w) (hB : Bys w ev bs) (cN : ∀ k, k < bs.length → GivesO 86 #[.agg (fR k), .agg xA, .int .u8 (bat bs k)] (.agg (fR (k + 1)))) :
 Calls Tryd.prog 51 #[.agg xA, ev] w fun e w' => e = .returned (.agg (fR bs.length)) ∧ Below w.heap.size w w' := by
 obtain ⟨ao, cap, rfl, hl, hc, hz⟩ := hB
 generalize hlen : bs.length = len at *
 have rp0 := hp3_0 w (.cells xA 53) (.cells #[.int .u64 0, .int .u64 0, .int .u64 0, .int .u64 0] 53) (.cells #[.int .u64 0, .int .u64 0, .int .u64 0, .int .u64 0] 53)
 have rp1 := hp3_1 w (.cells xA 53) (.cells #[.int .u64 0, .int .u64 0, .int .u64 0, .int .u64 0] 53) (.cells #[.int .u64 0, .int .u64 0, .int .u64 0, .int .u64 0] 53)
 have rp2 := hp3_2 w (.cells xA 53) (.cells #[.int .u64 0, .int .u64 0, .int .u64 0, .int .u64 0] 53) (.cells #[.int .u64 0, .int .u64 0, .int .u64 0, .int .u64 0] 53)
 have hw : Below w.heap.size w (((w.alloc (.cells xA 53)).alloc (.cells #[.int .u64 0, .int .u64 0, .int .u64 0, .int .u64 0] 53)).alloc (.cells #[.int .u64 0, .int .u64 0, .int .u64 0, .int .u64 0] 53)) := (((Below.refl _ _).alloc (Nat.le_refl _) _).alloc (by simp) _).alloc (by simp; omega) _
 have f4 : Ord (((w.alloc (.cells xA 53)).alloc (.cells #[.int .u64 0, .int .u64 0, .int .u64 0, .int .u64 0] 53)).alloc (.cells #[.int .u64 0, .int .u64 0, .int .u64 0, .int .u64 0] 53)) := ((hF.alloc _).alloc _).alloc _
 have hsz := hF.sz
 go_enter Tryd.func51, Tryd.ntmps51
 go_wp2_with (fail)
 generalize (((w.alloc (.cells xA 53)).alloc (.cells #[.int .u64 0, .int .u64 0, .int .u64 0, .int .u64 0] 53)).alloc (.cells #[.int .u64 0, .int .u64 0, .int .u64 0, .int .u64 0] 53)) = w0 at *
 go_loopw [9] (fun i wr => ∃ k : Nat, k ≤ len ∧ i = .int .i64 k ∧ wr.heap[w.heap.size]? = some (.cells xA 53 (0, 0)) ∧ wr.heap[w.heap.size + 1]? = some (.cells #[.int .u64 0, .int .u64 0, .int .u64 0, .int .u64 0] 53 (0, 0)) ∧ wr.heap[w.heap.size + 1 + 1]? = some (.cells (fR k) 53 (0, 0)) ∧ Below w.heap.size w wr ∧ Ord wr) (fun i _ => len - (intOf i).toNat)
 case atStart => exact ⟨0, by omega, rfl, rp0, rp1, by rw [h0]; exact rp2, hw, f4⟩
 case round =>
  clear rp0 rp1 rp2 hw f4
  obtain ⟨k, hk, rfl, rp0, rp1, rp2, hw, f4⟩ := hrel
  have ok := oR k
  by_cases hlt : k < len
  ·have hd : decide ((k : Int) < (len : Int)) = true := by simp; omega
   obtain ⟨b, off, rfl, hb1, hb2⟩ := hc (len - 1 - k) (by omega)
   replace hb2 := (hw.cell hb1).trans hb2
   rw [show bs.getD (len - 1 - k) 0 = bat bs k by unfold bat; rw [hlen]] at hb2
   have cn := cN k hlt
   have ok1 := oR (k + 1)
   generalize bat bs k = z at *
   generalize hx1 : fR (k + 1) = x1 at *
   generalize fR k = x0 at *
   have wi : (len : Int) - 1 - k = ((len - 1 - k : Nat) : Int) := by omega
   have hCl := keepc hb2
   have H0 := keepr rp0
   have H2 := keepr rp2
   go_wp2_with (fail)
   refine wp_region_tail (C := fun w' => ∃ p : Regrown, w' = grow (redrawn wr p.d) p.os) 11 _ rfl rfl rfl (by kernel_rfl) (by kernel_rfl) (by kernel_rfl) (by kernel_rfl) ⟨⟨wr.drawn + 1, #[]⟩, by rw [grow_empty]; rfl⟩ ?_
   dsimp only [List.set, idle]
   refine wpQuiet_load_row rfl 53 _ rfl (w.heap.size + 1 + 1) rfl 53 x0 (0, 0) _ H2.out Tryd.underlying53 rfl ok.infoS ?_
   simp only [Act.put, ZPd, ZPe, ZPf]
   refine wpQuiet_load_row rfl 53 _ rfl (w.heap.size) rfl 53 xA (0, 0) _ H0.out Tryd.underlying53 rfl oA.infoS ?_
   simp only [Act.put, ZPd, ZPe, ZPf]
   go_big_quiet_step (fail)
   go_big_quiet_step (fail)
   go_big_quiet_step (fail)
   go_big_quiet_step (fail)
   go_big_quiet_step (fail)
   go_big_quiet_step (fail)
   go_big_quiet_step (fail)
   refine wpQuiet_load_cell31 rfl 5 _ rfl b (off + (len - 1 - k)) (by first | rfl | (rw [wi]; rfl)) _ hCl.out Tryd.underlying5 ?_
   simp only [Act.put, ZPd, ZPe, ZPf]
   go_big_quiet_step (exact cn.re f4)
   refine wpQuiet_idle rfl rfl rfl ?_
   rintro _ ⟨p, rfl⟩
   have hb := below_regrown wr p.d p.os
   generalize grow (redrawn wr p.d) p.os = w3 at *
   replace rp0 := keep hb rp0
   replace rp1 := keep hb rp1
   replace rp2 := keep hb rp2
   replace hw := Below.after hw hb
   replace f4 := f4.below hb
   clear hb H0 H2 hCl
   go_wp2_with (first | (refine wpList_store_row rfl 53 _ _ rfl (w.heap.size + 1 + 1) x1 rfl rfl 53 _ rp2 ok1.infoS (ok.fits ok1) ok1.2 ?_) | fail)
   go_roundw
   case rel => exact ⟨k + 1, by omega, by go_num, (setRow_other w3 (w.heap.size + 1 + 1) (w.heap.size) x1 (by omega)).trans rp0, (setRow_other w3 (w.heap.size + 1 + 1) (w.heap.size + 1) x1 (by omega)).trans rp1, by rw [hx1]; exact setRow_heap w3 (w.heap.size + 1 + 1) _ x1 _ _ rp2, below_setRow hw (by omega) x1, f4.setRow (show 2 < w.heap.size + 1 + 1 by omega) x1⟩
   case measure => simp [intOf]; omega
  ·obtain rfl : k = len := by omega
   have hd : decide ((k : Int) < (k : Int)) = false := by simp
   generalize hx0 : fR k = x0 at *
   have hx0 := hide hx0
   go_wp2_with (first | (refine wpList_load_want rfl 53 _ rfl (w.heap.size + 1 + 1) rfl 53 x0 (0, 0) _ rp2 Tryd.underlying53 rfl ok.infoS ?_) | (refine wpList_store_row rfl 53 _ _ rfl (w.heap.size + 1) x0 rfl rfl 53 _ rp1 ok.infoS ok.fit ok.2 ?_) | fail)
   exact bodyPost_ret (v := .agg x0) (results_cell_row Tryd.results51 _ _ (w.heap.size + 1) _ x0 _ _ rfl (setRow_heap _ _ _ _ _ _ rp1) Tryd.underlying53 rfl ok.infoS) rfl ⟨by rw [hx0.out], below_setRow hw (by omega) _⟩
theorem a_by {A : Int} (hA : 0 ≤ A ∧ A < L19) (bs : List Int) (w : World) (ev : Value) (hF : Ord w) (hB : Bys w ev bs) : Calls Tryd.prog 51 #[.agg (wd A), ev] w fun e w' => e = .returned (.agg (wd (A * (bval bs : Int) % L19))) ∧ Below w.heap.size w w' := by
 have h := by_walk (wdo A) (fun k => wd (A * (topv bs k : Int) % L19)) (fun _ => wdo _) (by show wd (A * ((topv bs 0 : Nat) : Int) % L19) = _; rw [topv_zero]; show wd (A * 0 % L19) = _; rw [Int.mul_zero]; rfl) w ev hF hB (fun k hk => by
  obtain ⟨_, _, _, _, _, hz⟩ := hB
  have hb := bat_bd hz (k := k) hk
  have := a_next (r := A * (topv bs k : Int) % L19) (a := A) (m := bat bs k) (mod_L _) hA hb
  rw [by_step] at this
  show GivesO _ _ (.agg (wd (A * ((topv bs (k + 1) : Nat) : Int) % L19)))
  rw [topv_succ hk]
  rw [show ((topv bs k * 256 + (bat bs k).toNat : Nat) : Int) = (topv bs k : Int) * 256 + bat bs k by omega]
  exact this)
 rw [topv_all] at h
 exact h
end Go.Proofs.YtdcpcdkbhgkmlaaDoor
namespace Go.Proofs.YtdcpcdkbhgkmlaaDoor
set_option maxRecDepth 100000
open Go.RowKit Go.Sort
attribute [local go_sem] setCell_drewN alloc_drewN
set_option maxRecDepth 100000 in
set_option maxHeartbeats 8000000 in
theorem a_Reduce (bs : List Int) (w : World) (ev : Value) (hF : Ord w) (hB : Bys w ev bs) : Calls Tryd.prog 16 #[ev] w fun e w' => e = .returned (.agg (wd ((bval bs : Int) % L19))) ∧ Below w.heap.size w w' := by
 have c := fun W (h : Ord W) (hb : Bys W ev bs) => a_by (A := 1) (by unfold L19; decide) bs W ev h hb
 simp only [Int.one_mul] at c
 have oR := wdo ((bval bs : Int) % L19)
 have o1 := wdo 1
 generalize wd ((bval bs : Int) % L19) = xR at *
 have rp0 := hp1_0 w (.cells #[.int .u64 0, .int .u64 0, .int .u64 0, .int .u64 0] 53)
 have hw : Below w.heap.size w (w.alloc (.cells #[.int .u64 0, .int .u64 0, .int .u64 0, .int .u64 0] 53)) := (Below.refl _ _).alloc (Nat.le_refl _) _
 have f4 : Ord (w.alloc (.cells #[.int .u64 0, .int .u64 0, .int .u64 0, .int .u64 0] 53)) := hF.alloc _
 have hB2 := hB.keep hw
 go_enter Tryd.func16, Tryd.ntmps16
 iterate 6 go_step
 generalize w.alloc (.cells #[.int .u64 0, .int .u64 0, .int .u64 0, .int .u64 0] 53) = w0 at *
 go_wp2_with (first | (refine wpList_build_as rfl 51 _ rfl [(0, .int .u64 1)] rfl (wd 1) (by kernel_rfl) ?_) | (refine wpList_build_as rfl 53 _ rfl [(0, .agg (wd 1))] rfl (wd 1) (by kernel_rfl) ?_) | fail)
 refine (c _ f4 hB2).mono ?_
 rintro e w1 ⟨rfl, hb⟩
 replace rp0 := keep hb rp0
 replace hw := Below.after hw hb
 clear hb
 go_wp2_with (first | (refine wpList_store_row rfl 53 _ _ rfl (w.heap.size) xR rfl rfl 53 _ rp0 oR.infoS oR.fit oR.2 ?_) | fail)
 exact bodyPost_ret (v := .agg xR) (results_cell_row Tryd.results16 _ _ (w.heap.size) _ xR _ _ rfl (setRow_heap _ _ _ _ _ _ rp0) Tryd.underlying53 rfl oR.infoS) rfl ⟨rfl, below_setRow hw (by omega) _⟩
def rB (N : Int) (k : Nat) : Array Value := (((b32 N).take k ++ List.replicate (32 - k) 0).map (Value.int .u8)).toArray
theorem rB_size (N : Int) (k : Nat) (h : k ≤ 32) : (rB N k).size = 32 := by
 simp [rB, b32]
 omega
theorem rB_end (N : Int) : rB N 32 = kb N := rfl
set_option maxRecDepth 100000 in
set_option maxHeartbeats 8000000 in
theorem a_sBytes (N : Int) : Gives 20 #[.agg (wd N)] (.agg (kb N)) := by
 intro w
 have ra := hp3_0 w (.cells (wd N) 53) (.cells q32 23) (.cells q32 23)
 have rb := hp3_1 w (.cells (wd N) 53) (.cells q32 23) (.cells q32 23)
 have rc := hp3_2 w (.cells (wd N) 53) (.cells q32 23) (.cells q32 23)
 have hw : Below w.heap.size w (((w.alloc (.cells (wd N) 53)).alloc (.cells q32 23)).alloc (.cells q32 23)) := (((Below.refl _ _).alloc (Nat.le_refl _) _).alloc (by simp) _).alloc (by simp; omega) _
 go_enter Tryd.func20, Tryd.ntmps20
 go_wp2_with (fail)
 generalize (((w.alloc (.cells (wd N) 53)).alloc (.cells q32 23)).alloc (.cells q32 23)) = w0 at *
 replace rc : w0.heap[w.heap.size + 1 + 1]? = some (.cells (rB N 0) 23 (0, 0)) := rc
 go_loopw [5] (fun v wr => ∃ k : Nat, k ≤ 32 ∧ v = .int .i64 k ∧ wr.heap[w.heap.size]? = some (.cells (wd N) 53 (0, 0)) ∧ wr.heap[w.heap.size + 1]? = some (.cells q32 23 (0, 0)) ∧ wr.heap[w.heap.size + 1 + 1]? = some (.cells (rB N k) 23 (0, 0)) ∧ Below w.heap.size w wr) (fun v _ => 32 - (intOf v).toNat)
 case atStart => exact ⟨0, by omega, rfl, ra, rb, rc, hw⟩
 case round =>
  clear ra rb rc hw
  obtain ⟨k, hk, rfl, ra, rb, rc, hw⟩ := hrel
  rcases (by omega : k = 0 ∨ k = 1 ∨ k = 2 ∨ k = 3 ∨ k = 4 ∨ k = 5 ∨ k = 6 ∨ k = 7 ∨ k = 8 ∨ k = 9 ∨ k = 10 ∨ k = 11 ∨ k = 12 ∨ k = 13 ∨ k = 14 ∨ k = 15 ∨ k = 16 ∨ k = 17 ∨ k = 18 ∨ k = 19 ∨ k = 20 ∨ k = 21 ∨ k = 22 ∨ k = 23 ∨ k = 24 ∨ k = 25 ∨ k = 26 ∨ k = 27 ∨ k = 28 ∨ k = 29 ∨ k = 30 ∨ k = 31 ∨ k = 32) with rfl | rfl | rfl | rfl | rfl | rfl | rfl | rfl | rfl | rfl | rfl | rfl | rfl | rfl | rfl | rfl | rfl | rfl | rfl | rfl | rfl | rfl | rfl | rfl | rfl | rfl | rfl | rfl | rfl | rfl | rfl | rfl | rfl
  ·have hd : decide ((0 : Int) < 32) = true := by decide
   have ca : wr.cell? ⟨w.heap.size, 0, none⟩ = some (.int .u64 (N % 18446744073709551616)) := cell_of_row wr (w.heap.size) 0 _ _ _ ra
   have eb : IntKind.u8.wrap (N % 18446744073709551616) = byt N 0 := by
    show _ % 256 = N / 256 ^ 0 % 256
    omega
   have es : (rB N 0).setIfInBounds 0 (.int .u8 (byt N 0)) = rB N 1 := rfl
   have q0 := (setRow_other wr (w.heap.size + 1 + 1) (w.heap.size) (rB N 1) (by omega)).trans ra
   have q1 := (setRow_other wr (w.heap.size + 1 + 1) (w.heap.size + 1) (rB N 1) (by omega)).trans rb
   have q2 := setRow_heap wr (w.heap.size + 1 + 1) _ (rB N 1) _ _ rc
   have q3 := below_setRow hw (show w.heap.size ≤ w.heap.size + 1 + 1 by omega) (rB N 1)
   have ES := hide es
   have EB := hide eb
   clear es eb
   go_wp2_with (first | (refine wpList_load_cell31 rfl 25 _ rfl (w.heap.size) 0 rfl _ ca Tryd.underlying25 ?_) | (refine wpList_store_cell31 rfl 5 _ _ rfl (w.heap.size + 1 + 1) 0 rfl (.int .u8 (byt N 0)) (by rw [← EB.out]; rfl) 23 (rB N 0) rc (by rw [rB_size _ _ (by decide)]; decide) (by kernel_rfl) rfl ?_; rw [ES.out]) | fail)
   go_roundw
   case rel => exact ⟨1, by omega, by go_num, q0, q1, q2, q3⟩
   case measure => simp [intOf]
  ·have hd : decide ((1 : Int) < 32) = true := by decide
   have ca : wr.cell? ⟨w.heap.size, 0, none⟩ = some (.int .u64 (N % 18446744073709551616)) := cell_of_row wr (w.heap.size) 0 _ _ _ ra
   have eb : IntKind.u8.wrap (N % 18446744073709551616 / 256) = byt N 1 := by
    show _ % 256 = N / 256 ^ 1 % 256
    omega
   have es : (rB N 1).setIfInBounds 1 (.int .u8 (byt N 1)) = rB N 2 := rfl
   have q0 := (setRow_other wr (w.heap.size + 1 + 1) (w.heap.size) (rB N 2) (by omega)).trans ra
   have q1 := (setRow_other wr (w.heap.size + 1 + 1) (w.heap.size + 1) (rB N 2) (by omega)).trans rb
   have q2 := setRow_heap wr (w.heap.size + 1 + 1) _ (rB N 2) _ _ rc
   have q3 := below_setRow hw (show w.heap.size ≤ w.heap.size + 1 + 1 by omega) (rB N 2)
   have ES := hide es
   have EB := hide eb
   clear es eb
   go_wp2_with (first | (refine wpList_load_cell31 rfl 25 _ rfl (w.heap.size) 0 rfl _ ca Tryd.underlying25 ?_) | (refine wpList_store_cell31 rfl 5 _ _ rfl (w.heap.size + 1 + 1) 1 rfl (.int .u8 (byt N 1)) (by rw [← EB.out]; rfl) 23 (rB N 1) rc (by rw [rB_size _ _ (by decide)]; decide) (by kernel_rfl) rfl ?_; rw [ES.out]) | fail)
   go_roundw
   case rel => exact ⟨2, by omega, by go_num, q0, q1, q2, q3⟩
   case measure => simp [intOf]
  ·have hd : decide ((2 : Int) < 32) = true := by decide
   have ca : wr.cell? ⟨w.heap.size, 0, none⟩ = some (.int .u64 (N % 18446744073709551616)) := cell_of_row wr (w.heap.size) 0 _ _ _ ra
   have eb : IntKind.u8.wrap (N % 18446744073709551616 / 65536) = byt N 2 := by
    show _ % 256 = N / 256 ^ 2 % 256
    omega
   have es : (rB N 2).setIfInBounds 2 (.int .u8 (byt N 2)) = rB N 3 := rfl
   have q0 := (setRow_other wr (w.heap.size + 1 + 1) (w.heap.size) (rB N 3) (by omega)).trans ra
   have q1 := (setRow_other wr (w.heap.size + 1 + 1) (w.heap.size + 1) (rB N 3) (by omega)).trans rb
   have q2 := setRow_heap wr (w.heap.size + 1 + 1) _ (rB N 3) _ _ rc
   have q3 := below_setRow hw (show w.heap.size ≤ w.heap.size + 1 + 1 by omega) (rB N 3)
   have ES := hide es
   have EB := hide eb
   clear es eb
   go_wp2_with (first | (refine wpList_load_cell31 rfl 25 _ rfl (w.heap.size) 0 rfl _ ca Tryd.underlying25 ?_) | (refine wpList_store_cell31 rfl 5 _ _ rfl (w.heap.size + 1 + 1) 2 rfl (.int .u8 (byt N 2)) (by rw [← EB.out]; rfl) 23 (rB N 2) rc (by rw [rB_size _ _ (by decide)]; decide) (by kernel_rfl) rfl ?_; rw [ES.out]) | fail)
   go_roundw
   case rel => exact ⟨3, by omega, by go_num, q0, q1, q2, q3⟩
   case measure => simp [intOf]
  ·have hd : decide ((3 : Int) < 32) = true := by decide
   have ca : wr.cell? ⟨w.heap.size, 0, none⟩ = some (.int .u64 (N % 18446744073709551616)) := cell_of_row wr (w.heap.size) 0 _ _ _ ra
   have eb : IntKind.u8.wrap (N % 18446744073709551616 / 16777216) = byt N 3 := by
    show _ % 256 = N / 256 ^ 3 % 256
    omega
   have es : (rB N 3).setIfInBounds 3 (.int .u8 (byt N 3)) = rB N 4 := rfl
   have q0 := (setRow_other wr (w.heap.size + 1 + 1) (w.heap.size) (rB N 4) (by omega)).trans ra
   have q1 := (setRow_other wr (w.heap.size + 1 + 1) (w.heap.size + 1) (rB N 4) (by omega)).trans rb
   have q2 := setRow_heap wr (w.heap.size + 1 + 1) _ (rB N 4) _ _ rc
   have q3 := below_setRow hw (show w.heap.size ≤ w.heap.size + 1 + 1 by omega) (rB N 4)
   have ES := hide es
   have EB := hide eb
   clear es eb
   go_wp2_with (first | (refine wpList_load_cell31 rfl 25 _ rfl (w.heap.size) 0 rfl _ ca Tryd.underlying25 ?_) | (refine wpList_store_cell31 rfl 5 _ _ rfl (w.heap.size + 1 + 1) 3 rfl (.int .u8 (byt N 3)) (by rw [← EB.out]; rfl) 23 (rB N 3) rc (by rw [rB_size _ _ (by decide)]; decide) (by kernel_rfl) rfl ?_; rw [ES.out]) | fail)
   go_roundw
   case rel => exact ⟨4, by omega, by go_num, q0, q1, q2, q3⟩
   case measure => simp [intOf]
  ·have hd : decide ((4 : Int) < 32) = true := by decide
   have ca : wr.cell? ⟨w.heap.size, 0, none⟩ = some (.int .u64 (N % 18446744073709551616)) := cell_of_row wr (w.heap.size) 0 _ _ _ ra
   have eb : IntKind.u8.wrap (N % 18446744073709551616 / 4294967296) = byt N 4 := by
    show _ % 256 = N / 256 ^ 4 % 256
    omega
   have es : (rB N 4).setIfInBounds 4 (.int .u8 (byt N 4)) = rB N 5 := rfl
   have q0 := (setRow_other wr (w.heap.size + 1 + 1) (w.heap.size) (rB N 5) (by omega)).trans ra
   have q1 := (setRow_other wr (w.heap.size + 1 + 1) (w.heap.size + 1) (rB N 5) (by omega)).trans rb
   have q2 := setRow_heap wr (w.heap.size + 1 + 1) _ (rB N 5) _ _ rc
   have q3 := below_setRow hw (show w.heap.size ≤ w.heap.size + 1 + 1 by omega) (rB N 5)
   have ES := hide es
   have EB := hide eb
   clear es eb
   go_wp2_with (first | (refine wpList_load_cell31 rfl 25 _ rfl (w.heap.size) 0 rfl _ ca Tryd.underlying25 ?_) | (refine wpList_store_cell31 rfl 5 _ _ rfl (w.heap.size + 1 + 1) 4 rfl (.int .u8 (byt N 4)) (by rw [← EB.out]; rfl) 23 (rB N 4) rc (by rw [rB_size _ _ (by decide)]; decide) (by kernel_rfl) rfl ?_; rw [ES.out]) | fail)
   go_roundw
   case rel => exact ⟨5, by omega, by go_num, q0, q1, q2, q3⟩
   case measure => simp [intOf]
  ·have hd : decide ((5 : Int) < 32) = true := by decide
   have ca : wr.cell? ⟨w.heap.size, 0, none⟩ = some (.int .u64 (N % 18446744073709551616)) := cell_of_row wr (w.heap.size) 0 _ _ _ ra
   have eb : IntKind.u8.wrap (N % 18446744073709551616 / 1099511627776) = byt N 5 := by
    show _ % 256 = N / 256 ^ 5 % 256
    omega
   have es : (rB N 5).setIfInBounds 5 (.int .u8 (byt N 5)) = rB N 6 := rfl
   have q0 := (setRow_other wr (w.heap.size + 1 + 1) (w.heap.size) (rB N 6) (by omega)).trans ra
   have q1 := (setRow_other wr (w.heap.size + 1 + 1) (w.heap.size + 1) (rB N 6) (by omega)).trans rb
   have q2 := setRow_heap wr (w.heap.size + 1 + 1) _ (rB N 6) _ _ rc
   have q3 := below_setRow hw (show w.heap.size ≤ w.heap.size + 1 + 1 by omega) (rB N 6)
   have ES := hide es
   have EB := hide eb
   clear es eb
   go_wp2_with (first | (refine wpList_load_cell31 rfl 25 _ rfl (w.heap.size) 0 rfl _ ca Tryd.underlying25 ?_) | (refine wpList_store_cell31 rfl 5 _ _ rfl (w.heap.size + 1 + 1) 5 rfl (.int .u8 (byt N 5)) (by rw [← EB.out]; rfl) 23 (rB N 5) rc (by rw [rB_size _ _ (by decide)]; decide) (by kernel_rfl) rfl ?_; rw [ES.out]) | fail)
   go_roundw
   case rel => exact ⟨6, by omega, by go_num, q0, q1, q2, q3⟩
   case measure => simp [intOf]
  ·have hd : decide ((6 : Int) < 32) = true := by decide
   have ca : wr.cell? ⟨w.heap.size, 0, none⟩ = some (.int .u64 (N % 18446744073709551616)) := cell_of_row wr (w.heap.size) 0 _ _ _ ra
   have eb : IntKind.u8.wrap (N % 18446744073709551616 / 281474976710656) = byt N 6 := by
    show _ % 256 = N / 256 ^ 6 % 256
    omega
   have es : (rB N 6).setIfInBounds 6 (.int .u8 (byt N 6)) = rB N 7 := rfl
   have q0 := (setRow_other wr (w.heap.size + 1 + 1) (w.heap.size) (rB N 7) (by omega)).trans ra
   have q1 := (setRow_other wr (w.heap.size + 1 + 1) (w.heap.size + 1) (rB N 7) (by omega)).trans rb
   have q2 := setRow_heap wr (w.heap.size + 1 + 1) _ (rB N 7) _ _ rc
   have q3 := below_setRow hw (show w.heap.size ≤ w.heap.size + 1 + 1 by omega) (rB N 7)
   have ES := hide es
   have EB := hide eb
   clear es eb
   go_wp2_with (first | (refine wpList_load_cell31 rfl 25 _ rfl (w.heap.size) 0 rfl _ ca Tryd.underlying25 ?_) | (refine wpList_store_cell31 rfl 5 _ _ rfl (w.heap.size + 1 + 1) 6 rfl (.int .u8 (byt N 6)) (by rw [← EB.out]; rfl) 23 (rB N 6) rc (by rw [rB_size _ _ (by decide)]; decide) (by kernel_rfl) rfl ?_; rw [ES.out]) | fail)
   go_roundw
   case rel => exact ⟨7, by omega, by go_num, q0, q1, q2, q3⟩
   case measure => simp [intOf]
  ·have hd : decide ((7 : Int) < 32) = true := by decide
   have ca : wr.cell? ⟨w.heap.size, 0, none⟩ = some (.int .u64 (N % 18446744073709551616)) := cell_of_row wr (w.heap.size) 0 _ _ _ ra
   have eb : (N % 18446744073709551616) / 72057594037927936 = byt N 7 := by
    show _ = N / 256 ^ 7 % 256
    omega
   have es : (rB N 7).setIfInBounds 7 (.int .u8 (byt N 7)) = rB N 8 := rfl
   have q0 := (setRow_other wr (w.heap.size + 1 + 1) (w.heap.size) (rB N 8) (by omega)).trans ra
   have q1 := (setRow_other wr (w.heap.size + 1 + 1) (w.heap.size + 1) (rB N 8) (by omega)).trans rb
   have q2 := setRow_heap wr (w.heap.size + 1 + 1) _ (rB N 8) _ _ rc
   have q3 := below_setRow hw (show w.heap.size ≤ w.heap.size + 1 + 1 by omega) (rB N 8)
   have ES := hide es
   have EB := hide eb
   clear es eb
   go_wp2_with (first | (refine wpList_load_cell31 rfl 25 _ rfl (w.heap.size) 0 rfl _ ca Tryd.underlying25 ?_) | (refine wpList_store_cell31 rfl 5 _ _ rfl (w.heap.size + 1 + 1) 7 rfl (.int .u8 (byt N 7)) (by rw [← EB.out]; rfl) 23 (rB N 7) rc (by rw [rB_size _ _ (by decide)]; decide) (by kernel_rfl) rfl ?_; rw [ES.out]) | fail)
   go_roundw
   case rel => exact ⟨8, by omega, by go_num, q0, q1, q2, q3⟩
   case measure => simp [intOf]
  ·have hd : decide ((8 : Int) < 32) = true := by decide
   have ca : wr.cell? ⟨w.heap.size, 1, none⟩ = some (.int .u64 (N / 18446744073709551616 % 18446744073709551616)) := cell_of_row wr (w.heap.size) 1 _ _ _ ra
   have eb : IntKind.u8.wrap (N / 18446744073709551616 % 18446744073709551616) = byt N 8 := by
    show _ % 256 = N / 256 ^ 8 % 256
    omega
   have es : (rB N 8).setIfInBounds 8 (.int .u8 (byt N 8)) = rB N 9 := rfl
   have q0 := (setRow_other wr (w.heap.size + 1 + 1) (w.heap.size) (rB N 9) (by omega)).trans ra
   have q1 := (setRow_other wr (w.heap.size + 1 + 1) (w.heap.size + 1) (rB N 9) (by omega)).trans rb
   have q2 := setRow_heap wr (w.heap.size + 1 + 1) _ (rB N 9) _ _ rc
   have q3 := below_setRow hw (show w.heap.size ≤ w.heap.size + 1 + 1 by omega) (rB N 9)
   have ES := hide es
   have EB := hide eb
   clear es eb
   go_wp2_with (first | (refine wpList_load_cell31 rfl 25 _ rfl (w.heap.size) 1 rfl _ ca Tryd.underlying25 ?_) | (refine wpList_store_cell31 rfl 5 _ _ rfl (w.heap.size + 1 + 1) 8 rfl (.int .u8 (byt N 8)) (by rw [← EB.out]; rfl) 23 (rB N 8) rc (by rw [rB_size _ _ (by decide)]; decide) (by kernel_rfl) rfl ?_; rw [ES.out]) | fail)
   go_roundw
   case rel => exact ⟨9, by omega, by go_num, q0, q1, q2, q3⟩
   case measure => simp [intOf]
  ·have hd : decide ((9 : Int) < 32) = true := by decide
   have ca : wr.cell? ⟨w.heap.size, 1, none⟩ = some (.int .u64 (N / 18446744073709551616 % 18446744073709551616)) := cell_of_row wr (w.heap.size) 1 _ _ _ ra
   have eb : IntKind.u8.wrap (N / 18446744073709551616 % 18446744073709551616 / 256) = byt N 9 := by
    show _ % 256 = N / 256 ^ 9 % 256
    omega
   have es : (rB N 9).setIfInBounds 9 (.int .u8 (byt N 9)) = rB N 10 := rfl
   have q0 := (setRow_other wr (w.heap.size + 1 + 1) (w.heap.size) (rB N 10) (by omega)).trans ra
   have q1 := (setRow_other wr (w.heap.size + 1 + 1) (w.heap.size + 1) (rB N 10) (by omega)).trans rb
   have q2 := setRow_heap wr (w.heap.size + 1 + 1) _ (rB N 10) _ _ rc
   have q3 := below_setRow hw (show w.heap.size ≤ w.heap.size + 1 + 1 by omega) (rB N 10)
   have ES := hide es
   have EB := hide eb
   clear es eb
   go_wp2_with (first | (refine wpList_load_cell31 rfl 25 _ rfl (w.heap.size) 1 rfl _ ca Tryd.underlying25 ?_) | (refine wpList_store_cell31 rfl 5 _ _ rfl (w.heap.size + 1 + 1) 9 rfl (.int .u8 (byt N 9)) (by rw [← EB.out]; rfl) 23 (rB N 9) rc (by rw [rB_size _ _ (by decide)]; decide) (by kernel_rfl) rfl ?_; rw [ES.out]) | fail)
   go_roundw
   case rel => exact ⟨10, by omega, by go_num, q0, q1, q2, q3⟩
   case measure => simp [intOf]
  ·have hd : decide ((10 : Int) < 32) = true := by decide
   have ca : wr.cell? ⟨w.heap.size, 1, none⟩ = some (.int .u64 (N / 18446744073709551616 % 18446744073709551616)) := cell_of_row wr (w.heap.size) 1 _ _ _ ra
   have eb : IntKind.u8.wrap (N / 18446744073709551616 % 18446744073709551616 / 65536) = byt N 10 := by
    show _ % 256 = N / 256 ^ 10 % 256
    omega
   have es : (rB N 10).setIfInBounds 10 (.int .u8 (byt N 10)) = rB N 11 := rfl
   have q0 := (setRow_other wr (w.heap.size + 1 + 1) (w.heap.size) (rB N 11) (by omega)).trans ra
   have q1 := (setRow_other wr (w.heap.size + 1 + 1) (w.heap.size + 1) (rB N 11) (by omega)).trans rb
   have q2 := setRow_heap wr (w.heap.size + 1 + 1) _ (rB N 11) _ _ rc
   have q3 := below_setRow hw (show w.heap.size ≤ w.heap.size + 1 + 1 by omega) (rB N 11)
   have ES := hide es
   have EB := hide eb
   clear es eb
   go_wp2_with (first | (refine wpList_load_cell31 rfl 25 _ rfl (w.heap.size) 1 rfl _ ca Tryd.underlying25 ?_) | (refine wpList_store_cell31 rfl 5 _ _ rfl (w.heap.size + 1 + 1) 10 rfl (.int .u8 (byt N 10)) (by rw [← EB.out]; rfl) 23 (rB N 10) rc (by rw [rB_size _ _ (by decide)]; decide) (by kernel_rfl) rfl ?_; rw [ES.out]) | fail)
   go_roundw
   case rel => exact ⟨11, by omega, by go_num, q0, q1, q2, q3⟩
   case measure => simp [intOf]
  ·have hd : decide ((11 : Int) < 32) = true := by decide
   have ca : wr.cell? ⟨w.heap.size, 1, none⟩ = some (.int .u64 (N / 18446744073709551616 % 18446744073709551616)) := cell_of_row wr (w.heap.size) 1 _ _ _ ra
   have eb : IntKind.u8.wrap (N / 18446744073709551616 % 18446744073709551616 / 16777216) = byt N 11 := by
    show _ % 256 = N / 256 ^ 11 % 256
    omega
   have es : (rB N 11).setIfInBounds 11 (.int .u8 (byt N 11)) = rB N 12 := rfl
   have q0 := (setRow_other wr (w.heap.size + 1 + 1) (w.heap.size) (rB N 12) (by omega)).trans ra
   have q1 := (setRow_other wr (w.heap.size + 1 + 1) (w.heap.size + 1) (rB N 12) (by omega)).trans rb
   have q2 := setRow_heap wr (w.heap.size + 1 + 1) _ (rB N 12) _ _ rc
   have q3 := below_setRow hw (show w.heap.size ≤ w.heap.size + 1 + 1 by omega) (rB N 12)
   have ES := hide es
   have EB := hide eb
   clear es eb
   go_wp2_with (first | (refine wpList_load_cell31 rfl 25 _ rfl (w.heap.size) 1 rfl _ ca Tryd.underlying25 ?_) | (refine wpList_store_cell31 rfl 5 _ _ rfl (w.heap.size + 1 + 1) 11 rfl (.int .u8 (byt N 11)) (by rw [← EB.out]; rfl) 23 (rB N 11) rc (by rw [rB_size _ _ (by decide)]; decide) (by kernel_rfl) rfl ?_; rw [ES.out]) | fail)
   go_roundw
   case rel => exact ⟨12, by omega, by go_num, q0, q1, q2, q3⟩
   case measure => simp [intOf]
  ·have hd : decide ((12 : Int) < 32) = true := by decide
   have ca : wr.cell? ⟨w.heap.size, 1, none⟩ = some (.int .u64 (N / 18446744073709551616 % 18446744073709551616)) := cell_of_row wr (w.heap.size) 1 _ _ _ ra
   have eb : IntKind.u8.wrap (N / 18446744073709551616 % 18446744073709551616 / 4294967296) = byt N 12 := by
    show _ % 256 = N / 256 ^ 12 % 256
    omega
   have es : (rB N 12).setIfInBounds 12 (.int .u8 (byt N 12)) = rB N 13 := rfl
   have q0 := (setRow_other wr (w.heap.size + 1 + 1) (w.heap.size) (rB N 13) (by omega)).trans ra
   have q1 := (setRow_other wr (w.heap.size + 1 + 1) (w.heap.size + 1) (rB N 13) (by omega)).trans rb
   have q2 := setRow_heap wr (w.heap.size + 1 + 1) _ (rB N 13) _ _ rc
   have q3 := below_setRow hw (show w.heap.size ≤ w.heap.size + 1 + 1 by omega) (rB N 13)
   have ES := hide es
   have EB := hide eb
   clear es eb
   go_wp2_with (first | (refine wpList_load_cell31 rfl 25 _ rfl (w.heap.size) 1 rfl _ ca Tryd.underlying25 ?_) | (refine wpList_store_cell31 rfl 5 _ _ rfl (w.heap.size + 1 + 1) 12 rfl (.int .u8 (byt N 12)) (by rw [← EB.out]; rfl) 23 (rB N 12) rc (by rw [rB_size _ _ (by decide)]; decide) (by kernel_rfl) rfl ?_; rw [ES.out]) | fail)
   go_roundw
   case rel => exact ⟨13, by omega, by go_num, q0, q1, q2, q3⟩
   case measure => simp [intOf]
  ·have hd : decide ((13 : Int) < 32) = true := by decide
   have ca : wr.cell? ⟨w.heap.size, 1, none⟩ = some (.int .u64 (N / 18446744073709551616 % 18446744073709551616)) := cell_of_row wr (w.heap.size) 1 _ _ _ ra
   have eb : IntKind.u8.wrap (N / 18446744073709551616 % 18446744073709551616 / 1099511627776) = byt N 13 := by
    show _ % 256 = N / 256 ^ 13 % 256
    omega
   have es : (rB N 13).setIfInBounds 13 (.int .u8 (byt N 13)) = rB N 14 := rfl
   have q0 := (setRow_other wr (w.heap.size + 1 + 1) (w.heap.size) (rB N 14) (by omega)).trans ra
   have q1 := (setRow_other wr (w.heap.size + 1 + 1) (w.heap.size + 1) (rB N 14) (by omega)).trans rb
   have q2 := setRow_heap wr (w.heap.size + 1 + 1) _ (rB N 14) _ _ rc
   have q3 := below_setRow hw (show w.heap.size ≤ w.heap.size + 1 + 1 by omega) (rB N 14)
   have ES := hide es
   have EB := hide eb
   clear es eb
   go_wp2_with (first | (refine wpList_load_cell31 rfl 25 _ rfl (w.heap.size) 1 rfl _ ca Tryd.underlying25 ?_) | (refine wpList_store_cell31 rfl 5 _ _ rfl (w.heap.size + 1 + 1) 13 rfl (.int .u8 (byt N 13)) (by rw [← EB.out]; rfl) 23 (rB N 13) rc (by rw [rB_size _ _ (by decide)]; decide) (by kernel_rfl) rfl ?_; rw [ES.out]) | fail)
   go_roundw
   case rel => exact ⟨14, by omega, by go_num, q0, q1, q2, q3⟩
   case measure => simp [intOf]
  ·have hd : decide ((14 : Int) < 32) = true := by decide
   have ca : wr.cell? ⟨w.heap.size, 1, none⟩ = some (.int .u64 (N / 18446744073709551616 % 18446744073709551616)) := cell_of_row wr (w.heap.size) 1 _ _ _ ra
   have eb : IntKind.u8.wrap (N / 18446744073709551616 % 18446744073709551616 / 281474976710656) = byt N 14 := by
    show _ % 256 = N / 256 ^ 14 % 256
    omega
   have es : (rB N 14).setIfInBounds 14 (.int .u8 (byt N 14)) = rB N 15 := rfl
   have q0 := (setRow_other wr (w.heap.size + 1 + 1) (w.heap.size) (rB N 15) (by omega)).trans ra
   have q1 := (setRow_other wr (w.heap.size + 1 + 1) (w.heap.size + 1) (rB N 15) (by omega)).trans rb
   have q2 := setRow_heap wr (w.heap.size + 1 + 1) _ (rB N 15) _ _ rc
   have q3 := below_setRow hw (show w.heap.size ≤ w.heap.size + 1 + 1 by omega) (rB N 15)
   have ES := hide es
   have EB := hide eb
   clear es eb
   go_wp2_with (first | (refine wpList_load_cell31 rfl 25 _ rfl (w.heap.size) 1 rfl _ ca Tryd.underlying25 ?_) | (refine wpList_store_cell31 rfl 5 _ _ rfl (w.heap.size + 1 + 1) 14 rfl (.int .u8 (byt N 14)) (by rw [← EB.out]; rfl) 23 (rB N 14) rc (by rw [rB_size _ _ (by decide)]; decide) (by kernel_rfl) rfl ?_; rw [ES.out]) | fail)
   go_roundw
   case rel => exact ⟨15, by omega, by go_num, q0, q1, q2, q3⟩
   case measure => simp [intOf]
  ·have hd : decide ((15 : Int) < 32) = true := by decide
   have ca : wr.cell? ⟨w.heap.size, 1, none⟩ = some (.int .u64 (N / 18446744073709551616 % 18446744073709551616)) := cell_of_row wr (w.heap.size) 1 _ _ _ ra
   have eb : (N / 18446744073709551616 % 18446744073709551616) / 72057594037927936 = byt N 15 := by
    show _ = N / 256 ^ 15 % 256
    omega
   have es : (rB N 15).setIfInBounds 15 (.int .u8 (byt N 15)) = rB N 16 := rfl
   have q0 := (setRow_other wr (w.heap.size + 1 + 1) (w.heap.size) (rB N 16) (by omega)).trans ra
   have q1 := (setRow_other wr (w.heap.size + 1 + 1) (w.heap.size + 1) (rB N 16) (by omega)).trans rb
   have q2 := setRow_heap wr (w.heap.size + 1 + 1) _ (rB N 16) _ _ rc
   have q3 := below_setRow hw (show w.heap.size ≤ w.heap.size + 1 + 1 by omega) (rB N 16)
   have ES := hide es
   have EB := hide eb
   clear es eb
   go_wp2_with (first | (refine wpList_load_cell31 rfl 25 _ rfl (w.heap.size) 1 rfl _ ca Tryd.underlying25 ?_) | (refine wpList_store_cell31 rfl 5 _ _ rfl (w.heap.size + 1 + 1) 15 rfl (.int .u8 (byt N 15)) (by rw [← EB.out]; rfl) 23 (rB N 15) rc (by rw [rB_size _ _ (by decide)]; decide) (by kernel_rfl) rfl ?_; rw [ES.out]) | fail)
   go_roundw
   case rel => exact ⟨16, by omega, by go_num, q0, q1, q2, q3⟩
   case measure => simp [intOf]
  ·have hd : decide ((16 : Int) < 32) = true := by decide
   have ca : wr.cell? ⟨w.heap.size, 2, none⟩ = some (.int .u64 (N / 340282366920938463463374607431768211456 % 18446744073709551616)) := cell_of_row wr (w.heap.size) 2 _ _ _ ra
   have eb : IntKind.u8.wrap (N / 340282366920938463463374607431768211456 % 18446744073709551616) = byt N 16 := by
    show _ % 256 = N / 256 ^ 16 % 256
    omega
   have es : (rB N 16).setIfInBounds 16 (.int .u8 (byt N 16)) = rB N 17 := rfl
   have q0 := (setRow_other wr (w.heap.size + 1 + 1) (w.heap.size) (rB N 17) (by omega)).trans ra
   have q1 := (setRow_other wr (w.heap.size + 1 + 1) (w.heap.size + 1) (rB N 17) (by omega)).trans rb
   have q2 := setRow_heap wr (w.heap.size + 1 + 1) _ (rB N 17) _ _ rc
   have q3 := below_setRow hw (show w.heap.size ≤ w.heap.size + 1 + 1 by omega) (rB N 17)
   have ES := hide es
   have EB := hide eb
   clear es eb
   go_wp2_with (first | (refine wpList_load_cell31 rfl 25 _ rfl (w.heap.size) 2 rfl _ ca Tryd.underlying25 ?_) | (refine wpList_store_cell31 rfl 5 _ _ rfl (w.heap.size + 1 + 1) 16 rfl (.int .u8 (byt N 16)) (by rw [← EB.out]; rfl) 23 (rB N 16) rc (by rw [rB_size _ _ (by decide)]; decide) (by kernel_rfl) rfl ?_; rw [ES.out]) | fail)
   go_roundw
   case rel => exact ⟨17, by omega, by go_num, q0, q1, q2, q3⟩
   case measure => simp [intOf]
  ·have hd : decide ((17 : Int) < 32) = true := by decide
   have ca : wr.cell? ⟨w.heap.size, 2, none⟩ = some (.int .u64 (N / 340282366920938463463374607431768211456 % 18446744073709551616)) := cell_of_row wr (w.heap.size) 2 _ _ _ ra
   have eb : IntKind.u8.wrap (N / 340282366920938463463374607431768211456 % 18446744073709551616 / 256) = byt N 17 := by
    show _ % 256 = N / 256 ^ 17 % 256
    omega
   have es : (rB N 17).setIfInBounds 17 (.int .u8 (byt N 17)) = rB N 18 := rfl
   have q0 := (setRow_other wr (w.heap.size + 1 + 1) (w.heap.size) (rB N 18) (by omega)).trans ra
   have q1 := (setRow_other wr (w.heap.size + 1 + 1) (w.heap.size + 1) (rB N 18) (by omega)).trans rb
   have q2 := setRow_heap wr (w.heap.size + 1 + 1) _ (rB N 18) _ _ rc
   have q3 := below_setRow hw (show w.heap.size ≤ w.heap.size + 1 + 1 by omega) (rB N 18)
   have ES := hide es
   have EB := hide eb
   clear es eb
   go_wp2_with (first | (refine wpList_load_cell31 rfl 25 _ rfl (w.heap.size) 2 rfl _ ca Tryd.underlying25 ?_) | (refine wpList_store_cell31 rfl 5 _ _ rfl (w.heap.size + 1 + 1) 17 rfl (.int .u8 (byt N 17)) (by rw [← EB.out]; rfl) 23 (rB N 17) rc (by rw [rB_size _ _ (by decide)]; decide) (by kernel_rfl) rfl ?_; rw [ES.out]) | fail)
   go_roundw
   case rel => exact ⟨18, by omega, by go_num, q0, q1, q2, q3⟩
   case measure => simp [intOf]
  ·have hd : decide ((18 : Int) < 32) = true := by decide
   have ca : wr.cell? ⟨w.heap.size, 2, none⟩ = some (.int .u64 (N / 340282366920938463463374607431768211456 % 18446744073709551616)) := cell_of_row wr (w.heap.size) 2 _ _ _ ra
   have eb : IntKind.u8.wrap (N / 340282366920938463463374607431768211456 % 18446744073709551616 / 65536) = byt N 18 := by
    show _ % 256 = N / 256 ^ 18 % 256
    omega
   have es : (rB N 18).setIfInBounds 18 (.int .u8 (byt N 18)) = rB N 19 := rfl
   have q0 := (setRow_other wr (w.heap.size + 1 + 1) (w.heap.size) (rB N 19) (by omega)).trans ra
   have q1 := (setRow_other wr (w.heap.size + 1 + 1) (w.heap.size + 1) (rB N 19) (by omega)).trans rb
   have q2 := setRow_heap wr (w.heap.size + 1 + 1) _ (rB N 19) _ _ rc
   have q3 := below_setRow hw (show w.heap.size ≤ w.heap.size + 1 + 1 by omega) (rB N 19)
   have ES := hide es
   have EB := hide eb
   clear es eb
   go_wp2_with (first | (refine wpList_load_cell31 rfl 25 _ rfl (w.heap.size) 2 rfl _ ca Tryd.underlying25 ?_) | (refine wpList_store_cell31 rfl 5 _ _ rfl (w.heap.size + 1 + 1) 18 rfl (.int .u8 (byt N 18)) (by rw [← EB.out]; rfl) 23 (rB N 18) rc (by rw [rB_size _ _ (by decide)]; decide) (by kernel_rfl) rfl ?_; rw [ES.out]) | fail)
   go_roundw
   case rel => exact ⟨19, by omega, by go_num, q0, q1, q2, q3⟩
   case measure => simp [intOf]
  ·have hd : decide ((19 : Int) < 32) = true := by decide
   have ca : wr.cell? ⟨w.heap.size, 2, none⟩ = some (.int .u64 (N / 340282366920938463463374607431768211456 % 18446744073709551616)) := cell_of_row wr (w.heap.size) 2 _ _ _ ra
   have eb : IntKind.u8.wrap (N / 340282366920938463463374607431768211456 % 18446744073709551616 / 16777216) = byt N 19 := by
    show _ % 256 = N / 256 ^ 19 % 256
    omega
   have es : (rB N 19).setIfInBounds 19 (.int .u8 (byt N 19)) = rB N 20 := rfl
   have q0 := (setRow_other wr (w.heap.size + 1 + 1) (w.heap.size) (rB N 20) (by omega)).trans ra
   have q1 := (setRow_other wr (w.heap.size + 1 + 1) (w.heap.size + 1) (rB N 20) (by omega)).trans rb
   have q2 := setRow_heap wr (w.heap.size + 1 + 1) _ (rB N 20) _ _ rc
   have q3 := below_setRow hw (show w.heap.size ≤ w.heap.size + 1 + 1 by omega) (rB N 20)
   have ES := hide es
   have EB := hide eb
   clear es eb
   go_wp2_with (first | (refine wpList_load_cell31 rfl 25 _ rfl (w.heap.size) 2 rfl _ ca Tryd.underlying25 ?_) | (refine wpList_store_cell31 rfl 5 _ _ rfl (w.heap.size + 1 + 1) 19 rfl (.int .u8 (byt N 19)) (by rw [← EB.out]; rfl) 23 (rB N 19) rc (by rw [rB_size _ _ (by decide)]; decide) (by kernel_rfl) rfl ?_; rw [ES.out]) | fail)
   go_roundw
   case rel => exact ⟨20, by omega, by go_num, q0, q1, q2, q3⟩
   case measure => simp [intOf]
  ·have hd : decide ((20 : Int) < 32) = true := by decide
   have ca : wr.cell? ⟨w.heap.size, 2, none⟩ = some (.int .u64 (N / 340282366920938463463374607431768211456 % 18446744073709551616)) := cell_of_row wr (w.heap.size) 2 _ _ _ ra
   have eb : IntKind.u8.wrap (N / 340282366920938463463374607431768211456 % 18446744073709551616 / 4294967296) = byt N 20 := by
    show _ % 256 = N / 256 ^ 20 % 256
    omega
   have es : (rB N 20).setIfInBounds 20 (.int .u8 (byt N 20)) = rB N 21 := rfl
   have q0 := (setRow_other wr (w.heap.size + 1 + 1) (w.heap.size) (rB N 21) (by omega)).trans ra
   have q1 := (setRow_other wr (w.heap.size + 1 + 1) (w.heap.size + 1) (rB N 21) (by omega)).trans rb
   have q2 := setRow_heap wr (w.heap.size + 1 + 1) _ (rB N 21) _ _ rc
   have q3 := below_setRow hw (show w.heap.size ≤ w.heap.size + 1 + 1 by omega) (rB N 21)
   have ES := hide es
   have EB := hide eb
   clear es eb
   go_wp2_with (first | (refine wpList_load_cell31 rfl 25 _ rfl (w.heap.size) 2 rfl _ ca Tryd.underlying25 ?_) | (refine wpList_store_cell31 rfl 5 _ _ rfl (w.heap.size + 1 + 1) 20 rfl (.int .u8 (byt N 20)) (by rw [← EB.out]; rfl) 23 (rB N 20) rc (by rw [rB_size _ _ (by decide)]; decide) (by kernel_rfl) rfl ?_; rw [ES.out]) | fail)
   go_roundw
   case rel => exact ⟨21, by omega, by go_num, q0, q1, q2, q3⟩
   case measure => simp [intOf]
  ·have hd : decide ((21 : Int) < 32) = true := by decide
   have ca : wr.cell? ⟨w.heap.size, 2, none⟩ = some (.int .u64 (N / 340282366920938463463374607431768211456 % 18446744073709551616)) := cell_of_row wr (w.heap.size) 2 _ _ _ ra
   have eb : IntKind.u8.wrap (N / 340282366920938463463374607431768211456 % 18446744073709551616 / 1099511627776) = byt N 21 := by
    show _ % 256 = N / 256 ^ 21 % 256
    omega
   have es : (rB N 21).setIfInBounds 21 (.int .u8 (byt N 21)) = rB N 22 := rfl
   have q0 := (setRow_other wr (w.heap.size + 1 + 1) (w.heap.size) (rB N 22) (by omega)).trans ra
   have q1 := (setRow_other wr (w.heap.size + 1 + 1) (w.heap.size + 1) (rB N 22) (by omega)).trans rb
   have q2 := setRow_heap wr (w.heap.size + 1 + 1) _ (rB N 22) _ _ rc
   have q3 := below_setRow hw (show w.heap.size ≤ w.heap.size + 1 + 1 by omega) (rB N 22)
   have ES := hide es
   have EB := hide eb
   clear es eb
   go_wp2_with (first | (refine wpList_load_cell31 rfl 25 _ rfl (w.heap.size) 2 rfl _ ca Tryd.underlying25 ?_) | (refine wpList_store_cell31 rfl 5 _ _ rfl (w.heap.size + 1 + 1) 21 rfl (.int .u8 (byt N 21)) (by rw [← EB.out]; rfl) 23 (rB N 21) rc (by rw [rB_size _ _ (by decide)]; decide) (by kernel_rfl) rfl ?_; rw [ES.out]) | fail)
   go_roundw
   case rel => exact ⟨22, by omega, by go_num, q0, q1, q2, q3⟩
   case measure => simp [intOf]
  ·have hd : decide ((22 : Int) < 32) = true := by decide
   have ca : wr.cell? ⟨w.heap.size, 2, none⟩ = some (.int .u64 (N / 340282366920938463463374607431768211456 % 18446744073709551616)) := cell_of_row wr (w.heap.size) 2 _ _ _ ra
   have eb : IntKind.u8.wrap (N / 340282366920938463463374607431768211456 % 18446744073709551616 / 281474976710656) = byt N 22 := by
    show _ % 256 = N / 256 ^ 22 % 256
    omega
   have es : (rB N 22).setIfInBounds 22 (.int .u8 (byt N 22)) = rB N 23 := rfl
   have q0 := (setRow_other wr (w.heap.size + 1 + 1) (w.heap.size) (rB N 23) (by omega)).trans ra
   have q1 := (setRow_other wr (w.heap.size + 1 + 1) (w.heap.size + 1) (rB N 23) (by omega)).trans rb
   have q2 := setRow_heap wr (w.heap.size + 1 + 1) _ (rB N 23) _ _ rc
   have q3 := below_setRow hw (show w.heap.size ≤ w.heap.size + 1 + 1 by omega) (rB N 23)
   have ES := hide es
   have EB := hide eb
   clear es eb
   go_wp2_with (first | (refine wpList_load_cell31 rfl 25 _ rfl (w.heap.size) 2 rfl _ ca Tryd.underlying25 ?_) | (refine wpList_store_cell31 rfl 5 _ _ rfl (w.heap.size + 1 + 1) 22 rfl (.int .u8 (byt N 22)) (by rw [← EB.out]; rfl) 23 (rB N 22) rc (by rw [rB_size _ _ (by decide)]; decide) (by kernel_rfl) rfl ?_; rw [ES.out]) | fail)
   go_roundw
   case rel => exact ⟨23, by omega, by go_num, q0, q1, q2, q3⟩
   case measure => simp [intOf]
  ·have hd : decide ((23 : Int) < 32) = true := by decide
   have ca : wr.cell? ⟨w.heap.size, 2, none⟩ = some (.int .u64 (N / 340282366920938463463374607431768211456 % 18446744073709551616)) := cell_of_row wr (w.heap.size) 2 _ _ _ ra
   have eb : (N / 340282366920938463463374607431768211456 % 18446744073709551616) / 72057594037927936 = byt N 23 := by
    show _ = N / 256 ^ 23 % 256
    omega
   have es : (rB N 23).setIfInBounds 23 (.int .u8 (byt N 23)) = rB N 24 := rfl
   have q0 := (setRow_other wr (w.heap.size + 1 + 1) (w.heap.size) (rB N 24) (by omega)).trans ra
   have q1 := (setRow_other wr (w.heap.size + 1 + 1) (w.heap.size + 1) (rB N 24) (by omega)).trans rb
   have q2 := setRow_heap wr (w.heap.size + 1 + 1) _ (rB N 24) _ _ rc
   have q3 := below_setRow hw (show w.heap.size ≤ w.heap.size + 1 + 1 by omega) (rB N 24)
   have ES := hide es
   have EB := hide eb
   clear es eb
   go_wp2_with (first | (refine wpList_load_cell31 rfl 25 _ rfl (w.heap.size) 2 rfl _ ca Tryd.underlying25 ?_) | (refine wpList_store_cell31 rfl 5 _ _ rfl (w.heap.size + 1 + 1) 23 rfl (.int .u8 (byt N 23)) (by rw [← EB.out]; rfl) 23 (rB N 23) rc (by rw [rB_size _ _ (by decide)]; decide) (by kernel_rfl) rfl ?_; rw [ES.out]) | fail)
   go_roundw
   case rel => exact ⟨24, by omega, by go_num, q0, q1, q2, q3⟩
   case measure => simp [intOf]
  ·have hd : decide ((24 : Int) < 32) = true := by decide
   have ca : wr.cell? ⟨w.heap.size, 3, none⟩ = some (.int .u64 (N / 6277101735386680763835789423207666416102355444464034512896 % 18446744073709551616)) := cell_of_row wr (w.heap.size) 3 _ _ _ ra
   have eb : IntKind.u8.wrap (N / 6277101735386680763835789423207666416102355444464034512896 % 18446744073709551616) = byt N 24 := by
    show _ % 256 = N / 256 ^ 24 % 256
    omega
   have es : (rB N 24).setIfInBounds 24 (.int .u8 (byt N 24)) = rB N 25 := rfl
   have q0 := (setRow_other wr (w.heap.size + 1 + 1) (w.heap.size) (rB N 25) (by omega)).trans ra
   have q1 := (setRow_other wr (w.heap.size + 1 + 1) (w.heap.size + 1) (rB N 25) (by omega)).trans rb
   have q2 := setRow_heap wr (w.heap.size + 1 + 1) _ (rB N 25) _ _ rc
   have q3 := below_setRow hw (show w.heap.size ≤ w.heap.size + 1 + 1 by omega) (rB N 25)
   have ES := hide es
   have EB := hide eb
   clear es eb
   go_wp2_with (first | (refine wpList_load_cell31 rfl 25 _ rfl (w.heap.size) 3 rfl _ ca Tryd.underlying25 ?_) | (refine wpList_store_cell31 rfl 5 _ _ rfl (w.heap.size + 1 + 1) 24 rfl (.int .u8 (byt N 24)) (by rw [← EB.out]; rfl) 23 (rB N 24) rc (by rw [rB_size _ _ (by decide)]; decide) (by kernel_rfl) rfl ?_; rw [ES.out]) | fail)
   go_roundw
   case rel => exact ⟨25, by omega, by go_num, q0, q1, q2, q3⟩
   case measure => simp [intOf]
  ·have hd : decide ((25 : Int) < 32) = true := by decide
   have ca : wr.cell? ⟨w.heap.size, 3, none⟩ = some (.int .u64 (N / 6277101735386680763835789423207666416102355444464034512896 % 18446744073709551616)) := cell_of_row wr (w.heap.size) 3 _ _ _ ra
   have eb : IntKind.u8.wrap (N / 6277101735386680763835789423207666416102355444464034512896 % 18446744073709551616 / 256) = byt N 25 := by
    show _ % 256 = N / 256 ^ 25 % 256
    omega
   have es : (rB N 25).setIfInBounds 25 (.int .u8 (byt N 25)) = rB N 26 := rfl
   have q0 := (setRow_other wr (w.heap.size + 1 + 1) (w.heap.size) (rB N 26) (by omega)).trans ra
   have q1 := (setRow_other wr (w.heap.size + 1 + 1) (w.heap.size + 1) (rB N 26) (by omega)).trans rb
   have q2 := setRow_heap wr (w.heap.size + 1 + 1) _ (rB N 26) _ _ rc
   have q3 := below_setRow hw (show w.heap.size ≤ w.heap.size + 1 + 1 by omega) (rB N 26)
   have ES := hide es
   have EB := hide eb
   clear es eb
   go_wp2_with (first | (refine wpList_load_cell31 rfl 25 _ rfl (w.heap.size) 3 rfl _ ca Tryd.underlying25 ?_) | (refine wpList_store_cell31 rfl 5 _ _ rfl (w.heap.size + 1 + 1) 25 rfl (.int .u8 (byt N 25)) (by rw [← EB.out]; rfl) 23 (rB N 25) rc (by rw [rB_size _ _ (by decide)]; decide) (by kernel_rfl) rfl ?_; rw [ES.out]) | fail)
   go_roundw
   case rel => exact ⟨26, by omega, by go_num, q0, q1, q2, q3⟩
   case measure => simp [intOf]
  ·have hd : decide ((26 : Int) < 32) = true := by decide
   have ca : wr.cell? ⟨w.heap.size, 3, none⟩ = some (.int .u64 (N / 6277101735386680763835789423207666416102355444464034512896 % 18446744073709551616)) := cell_of_row wr (w.heap.size) 3 _ _ _ ra
   have eb : IntKind.u8.wrap (N / 6277101735386680763835789423207666416102355444464034512896 % 18446744073709551616 / 65536) = byt N 26 := by
    show _ % 256 = N / 256 ^ 26 % 256
    omega
   have es : (rB N 26).setIfInBounds 26 (.int .u8 (byt N 26)) = rB N 27 := rfl
   have q0 := (setRow_other wr (w.heap.size + 1 + 1) (w.heap.size) (rB N 27) (by omega)).trans ra
   have q1 := (setRow_other wr (w.heap.size + 1 + 1) (w.heap.size + 1) (rB N 27) (by omega)).trans rb
   have q2 := setRow_heap wr (w.heap.size + 1 + 1) _ (rB N 27) _ _ rc
   have q3 := below_setRow hw (show w.heap.size ≤ w.heap.size + 1 + 1 by omega) (rB N 27)
   have ES := hide es
   have EB := hide eb
   clear es eb
   go_wp2_with (first | (refine wpList_load_cell31 rfl 25 _ rfl (w.heap.size) 3 rfl _ ca Tryd.underlying25 ?_) | (refine wpList_store_cell31 rfl 5 _ _ rfl (w.heap.size + 1 + 1) 26 rfl (.int .u8 (byt N 26)) (by rw [← EB.out]; rfl) 23 (rB N 26) rc (by rw [rB_size _ _ (by decide)]; decide) (by kernel_rfl) rfl ?_; rw [ES.out]) | fail)
   go_roundw
   case rel => exact ⟨27, by omega, by go_num, q0, q1, q2, q3⟩
   case measure => simp [intOf]
  ·have hd : decide ((27 : Int) < 32) = true := by decide
   have ca : wr.cell? ⟨w.heap.size, 3, none⟩ = some (.int .u64 (N / 6277101735386680763835789423207666416102355444464034512896 % 18446744073709551616)) := cell_of_row wr (w.heap.size) 3 _ _ _ ra
   have eb : IntKind.u8.wrap (N / 6277101735386680763835789423207666416102355444464034512896 % 18446744073709551616 / 16777216) = byt N 27 := by
    show _ % 256 = N / 256 ^ 27 % 256
    omega
   have es : (rB N 27).setIfInBounds 27 (.int .u8 (byt N 27)) = rB N 28 := rfl
   have q0 := (setRow_other wr (w.heap.size + 1 + 1) (w.heap.size) (rB N 28) (by omega)).trans ra
   have q1 := (setRow_other wr (w.heap.size + 1 + 1) (w.heap.size + 1) (rB N 28) (by omega)).trans rb
   have q2 := setRow_heap wr (w.heap.size + 1 + 1) _ (rB N 28) _ _ rc
   have q3 := below_setRow hw (show w.heap.size ≤ w.heap.size + 1 + 1 by omega) (rB N 28)
   have ES := hide es
   have EB := hide eb
   clear es eb
   go_wp2_with (first | (refine wpList_load_cell31 rfl 25 _ rfl (w.heap.size) 3 rfl _ ca Tryd.underlying25 ?_) | (refine wpList_store_cell31 rfl 5 _ _ rfl (w.heap.size + 1 + 1) 27 rfl (.int .u8 (byt N 27)) (by rw [← EB.out]; rfl) 23 (rB N 27) rc (by rw [rB_size _ _ (by decide)]; decide) (by kernel_rfl) rfl ?_; rw [ES.out]) | fail)
   go_roundw
   case rel => exact ⟨28, by omega, by go_num, q0, q1, q2, q3⟩
   case measure => simp [intOf]
  ·have hd : decide ((28 : Int) < 32) = true := by decide
   have ca : wr.cell? ⟨w.heap.size, 3, none⟩ = some (.int .u64 (N / 6277101735386680763835789423207666416102355444464034512896 % 18446744073709551616)) := cell_of_row wr (w.heap.size) 3 _ _ _ ra
   have eb : IntKind.u8.wrap (N / 6277101735386680763835789423207666416102355444464034512896 % 18446744073709551616 / 4294967296) = byt N 28 := by
    show _ % 256 = N / 256 ^ 28 % 256
    omega
   have es : (rB N 28).setIfInBounds 28 (.int .u8 (byt N 28)) = rB N 29 := rfl
   have q0 := (setRow_other wr (w.heap.size + 1 + 1) (w.heap.size) (rB N 29) (by omega)).trans ra
   have q1 := (setRow_other wr (w.heap.size + 1 + 1) (w.heap.size + 1) (rB N 29) (by omega)).trans rb
   have q2 := setRow_heap wr (w.heap.size + 1 + 1) _ (rB N 29) _ _ rc
   have q3 := below_setRow hw (show w.heap.size ≤ w.heap.size + 1 + 1 by omega) (rB N 29)
   have ES := hide es
   have EB := hide eb
   clear es eb
   go_wp2_with (first | (refine wpList_load_cell31 rfl 25 _ rfl (w.heap.size) 3 rfl _ ca Tryd.underlying25 ?_) | (refine wpList_store_cell31 rfl 5 _ _ rfl (w.heap.size + 1 + 1) 28 rfl (.int .u8 (byt N 28)) (by rw [← EB.out]; rfl) 23 (rB N 28) rc (by rw [rB_size _ _ (by decide)]; decide) (by kernel_rfl) rfl ?_; rw [ES.out]) | fail)
   go_roundw
   case rel => exact ⟨29, by omega, by go_num, q0, q1, q2, q3⟩
   case measure => simp [intOf]
  ·have hd : decide ((29 : Int) < 32) = true := by decide
   have ca : wr.cell? ⟨w.heap.size, 3, none⟩ = some (.int .u64 (N / 6277101735386680763835789423207666416102355444464034512896 % 18446744073709551616)) := cell_of_row wr (w.heap.size) 3 _ _ _ ra
   have eb : IntKind.u8.wrap (N / 6277101735386680763835789423207666416102355444464034512896 % 18446744073709551616 / 1099511627776) = byt N 29 := by
    show _ % 256 = N / 256 ^ 29 % 256
    omega
   have es : (rB N 29).setIfInBounds 29 (.int .u8 (byt N 29)) = rB N 30 := rfl
   have q0 := (setRow_other wr (w.heap.size + 1 + 1) (w.heap.size) (rB N 30) (by omega)).trans ra
   have q1 := (setRow_other wr (w.heap.size + 1 + 1) (w.heap.size + 1) (rB N 30) (by omega)).trans rb
   have q2 := setRow_heap wr (w.heap.size + 1 + 1) _ (rB N 30) _ _ rc
   have q3 := below_setRow hw (show w.heap.size ≤ w.heap.size + 1 + 1 by omega) (rB N 30)
   have ES := hide es
   have EB := hide eb
   clear es eb
   go_wp2_with (first | (refine wpList_load_cell31 rfl 25 _ rfl (w.heap.size) 3 rfl _ ca Tryd.underlying25 ?_) | (refine wpList_store_cell31 rfl 5 _ _ rfl (w.heap.size + 1 + 1) 29 rfl (.int .u8 (byt N 29)) (by rw [← EB.out]; rfl) 23 (rB N 29) rc (by rw [rB_size _ _ (by decide)]; decide) (by kernel_rfl) rfl ?_; rw [ES.out]) | fail)
   go_roundw
   case rel => exact ⟨30, by omega, by go_num, q0, q1, q2, q3⟩
   case measure => simp [intOf]
  ·have hd : decide ((30 : Int) < 32) = true := by decide
   have ca : wr.cell? ⟨w.heap.size, 3, none⟩ = some (.int .u64 (N / 6277101735386680763835789423207666416102355444464034512896 % 18446744073709551616)) := cell_of_row wr (w.heap.size) 3 _ _ _ ra
   have eb : IntKind.u8.wrap (N / 6277101735386680763835789423207666416102355444464034512896 % 18446744073709551616 / 281474976710656) = byt N 30 := by
    show _ % 256 = N / 256 ^ 30 % 256
    omega
   have es : (rB N 30).setIfInBounds 30 (.int .u8 (byt N 30)) = rB N 31 := rfl
   have q0 := (setRow_other wr (w.heap.size + 1 + 1) (w.heap.size) (rB N 31) (by omega)).trans ra
   have q1 := (setRow_other wr (w.heap.size + 1 + 1) (w.heap.size + 1) (rB N 31) (by omega)).trans rb
   have q2 := setRow_heap wr (w.heap.size + 1 + 1) _ (rB N 31) _ _ rc
   have q3 := below_setRow hw (show w.heap.size ≤ w.heap.size + 1 + 1 by omega) (rB N 31)
   have ES := hide es
   have EB := hide eb
   clear es eb
   go_wp2_with (first | (refine wpList_load_cell31 rfl 25 _ rfl (w.heap.size) 3 rfl _ ca Tryd.underlying25 ?_) | (refine wpList_store_cell31 rfl 5 _ _ rfl (w.heap.size + 1 + 1) 30 rfl (.int .u8 (byt N 30)) (by rw [← EB.out]; rfl) 23 (rB N 30) rc (by rw [rB_size _ _ (by decide)]; decide) (by kernel_rfl) rfl ?_; rw [ES.out]) | fail)
   go_roundw
   case rel => exact ⟨31, by omega, by go_num, q0, q1, q2, q3⟩
   case measure => simp [intOf]
  ·have hd : decide ((31 : Int) < 32) = true := by decide
   have ca : wr.cell? ⟨w.heap.size, 3, none⟩ = some (.int .u64 (N / 6277101735386680763835789423207666416102355444464034512896 % 18446744073709551616)) := cell_of_row wr (w.heap.size) 3 _ _ _ ra
   have eb : (N / 6277101735386680763835789423207666416102355444464034512896 % 18446744073709551616) / 72057594037927936 = byt N 31 := by
    show _ = N / 256 ^ 31 % 256
    omega
   have es : (rB N 31).setIfInBounds 31 (.int .u8 (byt N 31)) = rB N 32 := rfl
   have q0 := (setRow_other wr (w.heap.size + 1 + 1) (w.heap.size) (rB N 32) (by omega)).trans ra
   have q1 := (setRow_other wr (w.heap.size + 1 + 1) (w.heap.size + 1) (rB N 32) (by omega)).trans rb
   have q2 := setRow_heap wr (w.heap.size + 1 + 1) _ (rB N 32) _ _ rc
   have q3 := below_setRow hw (show w.heap.size ≤ w.heap.size + 1 + 1 by omega) (rB N 32)
   have ES := hide es
   have EB := hide eb
   clear es eb
   go_wp2_with (first | (refine wpList_load_cell31 rfl 25 _ rfl (w.heap.size) 3 rfl _ ca Tryd.underlying25 ?_) | (refine wpList_store_cell31 rfl 5 _ _ rfl (w.heap.size + 1 + 1) 31 rfl (.int .u8 (byt N 31)) (by rw [← EB.out]; rfl) 23 (rB N 31) rc (by rw [rB_size _ _ (by decide)]; decide) (by kernel_rfl) rfl ?_; rw [ES.out]) | fail)
   go_roundw
   case rel => exact ⟨32, by omega, by go_num, q0, q1, q2, q3⟩
   case measure => simp [intOf]
  ·have hd : decide ((32 : Int) < 32) = false := by decide
   rw [rB_end] at rc
   go_wp2_with (first | (refine wpList_load_want rfl 23 _ rfl (w.heap.size + 1 + 1) rfl 23 (kb N) (0, 0) _ rc Tryd.underlying23 rfl (kb_info _) ?_) | (refine wpList_store_row rfl 23 _ _ rfl (w.heap.size + 1) (kb N) rfl rfl 23 _ rb (kb_info _) rfl (kb_one _) ?_) | fail)
   exact bodyPost_ret (v := .agg (kb N)) (results_cell_row Tryd.results20 _ _ (w.heap.size + 1) _ (kb N) _ _ rfl (setRow_heap _ _ _ _ _ _ rb) Tryd.underlying23 rfl (kb_info _)) rfl ⟨rfl, below_setRow hw (by omega) _⟩
end Go.Proofs.YtdcpcdkbhgkmlaaDoor

