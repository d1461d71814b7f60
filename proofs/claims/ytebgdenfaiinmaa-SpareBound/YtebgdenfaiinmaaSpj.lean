import Derived.Test.YtebgdenfaiinmaaProg
import Derived.WalkKit
import Derived.WalkSpells
import Derived.WalkLawsBesides
import Derived.Lib.QuietBelow
import Derived.BigQuiet
import Derived.OrdersHeld
import Derived.Deep.RegionHeld3
import Derived.OwnWalk
import Derived.Test.YtebgdenfaiinmaaKit
import Derived.Test.YtebgdenfaiinmaaSpi
namespace Go.Proofs.Ytebgdenfaiinmaa
open Go Go.RowKit Go.Sort Go.ChangeMaps Go.MapKept
attribute [local go_sem] setCell_drewN alloc_drewN

/-- Is there one that meets it? -/
def hsm (l : List Sr) (x : Sr) : Bool := l.any fun y => mt y x
theorem hsm_snoc (l : List Sr) (k : Nat) (h : k < l.length) (x : Sr) : hsm (l.take (k + 1)) x = (hsm (l.take k) x || mt (gs l k) x) := by
  rw [take_snocS l k h, hsm, List.any_append]; simp [hsm]
theorem hsm_hit {l : List Sr} {k : Nat} (h : k < l.length) {x : Sr} (hm : mt (gs l k) x = true) : hsm l x = true := List.any_eq_true.2 ⟨_, gs_mem h, hm⟩
set_option maxRecDepth 100000 in
set_option maxHeartbeats 4000000 in
theorem l_has (l : List Sr) (x : Sr) (hx : x.ok) (w : World) (v : Value) (hl : SpL w v l) : Calls Try.prog 24 #[v, .agg (srow x)] w fun e w' => e = .returned (.bool (hsm l x)) ∧ Below w.heap.size w w' := by
  have lokk := hl.ok
  have ll := hl.len
  obtain ⟨ao, cap, rfl⟩ := hl.form
  have R00 := hp1_0 w (.cells (srow x) 60)
  have hw0 : Below w.heap.size w (w.alloc (.cells (srow x) 60)) := (Below.refl _ _).alloc (Nat.le_refl _) _
  go_enter Try.func24, Try.ntmps24
  go_wp2_with (first | (refine wpList_box rfl 60 _ rfl _ rfl (bSp _) ?_) | fail)
  go_loopw [5] (fun i wr => ∃ k : Nat, k ≤ l.length ∧ i = .int .i64 k ∧ Below w.heap.size w wr ∧ wr.heap[w.heap.size]? = some (.cells (srow x) 60 (0, 0)) ∧ Hid (hsm (l.take k) x = false)) (fun i _ => l.length - (intOf i).toNat)
  case atStart => exact ⟨0, by omega, rfl, hw0, R00, hide rfl⟩
  case round =>
    clear hw0 R00
    obtain ⟨k, hk, rfl, hw, R0, htk⟩ := hrel
    by_cases hlt : k < l.length
    · have hd : decide ((k : Int) < (l.length : Int)) = true := by simp; omega
      obtain ⟨b1, o1, rfl, hb1, r1⟩ := hl.at hlt
      have ok1 := lokk.at hlt
      have hk1 : 0 ≤ (k : Int) ∧ (k : Int) < (l.length : Int) := by omega
      have hn1 : mt (gs l k) x = false → Hid (hsm (l.take (k + 1)) x = false) := fun e => hide (by rw [hsm_snoc l k hlt, htk.out, e]; rfl)
      have hn2 : mt (gs l k) x = true → hsm l x = true := hsm_hit hlt
      replace r1 := rangeAt_keep r1 (hw.block b1 hb1)
      clear hl htk
      go_wp2_with (fail)
      have hbd : Below wr.heap.size wr wr.drew := below_drN (Below.refl _ _) 1
      replace r1 := rangeAt_keep r1 (hbd.block b1 (Nat.lt_of_lt_of_le hb1 hw.size))
      replace R0 := keep hbd R0
      replace hw := Below.after hw hbd
      have hb9 : b1 < wr.drew.heap.size := Nat.lt_of_lt_of_le hb1 hw.size
      clear hbd
      refine wp_region_noPanic ?_
      refine wp_region_held (S := fun W => W.rangeAt b1 (o1 + k * 65) (srl (gs l k)) ∧ W.heap[w.heap.size]? = some (.cells (srow x) 60 (0, 0))) (by kernel_rfl) ?_
      change wpAnyH _ _ _ _ _ _ _ _ (World.drew _)
      generalize wr.drew = w1 at *
      refine wpAnyH_take (i := 0) (v := ?v10) rfl (by kernel_rfl) (by kernel_rfl) (by kernel_rfl) (fun _ _ _ h => h) (Or.inl ⟨by rfl, ?y10⟩) ⟨r1, R0⟩ ?r10
      case y10 =>
        intro w_ hS_
        go_simp
        try with_reducible rfl
      simp only [Act.put, List.getElem_toArray, List.getElem_cons_zero, List.setIfInBounds_toArray, List.set_cons_succ, List.set_cons_zero]
      refine wpAnyH_take (i := 1) (v := ?v11) rfl (by kernel_rfl) (by kernel_rfl) (by kernel_rfl) (fun _ _ _ h => h) (Or.inl ⟨by rfl, ?y11⟩) ⟨r1, R0⟩ ?r11
      case y11 =>
        intro w_ hS_
        go_simp
        try with_reducible rfl
      simp only [Act.put, List.getElem_toArray, List.getElem_cons_succ, List.getElem_cons_zero, List.setIfInBounds_toArray, List.set_cons_succ, List.set_cons_zero]
      refine wpAnyH_take (i := 2) (v := ?v12) rfl (by kernel_rfl) (by kernel_rfl) (by kernel_rfl) (fun _ _ _ h => h) (Or.inl ⟨by rfl, ?y12⟩) ⟨r1, R0⟩ ?r12
      case y12 =>
        intro w_ hS_
        go_simp
        try with_reducible rfl
      simp only [Act.put, List.getElem_toArray, List.getElem_cons_succ, List.getElem_cons_zero, List.setIfInBounds_toArray, List.set_cons_succ, List.set_cons_zero]
      refine wpAnyH_take (i := 3) (v := .agg (srow (gs l k))) rfl (by kernel_rfl) (by kernel_rfl) (by kernel_rfl) (fun _ _ _ h => h) (Or.inl ⟨by rfl, ?y13⟩) ⟨r1, R0⟩ ?r13
      case y13 =>
        intro w_ hS_
        simp only [List.getElem_toArray, List.getElem_cons_succ, List.getElem_cons_zero]
        exact run_load_range 60 _ (by rfl) b1 (o1 + k * 65) (by rfl) (srl (gs l k)) _ hS_.1 Try.underlying60 rfl (infoSl ok1)
      simp only [Act.put, List.getElem_toArray, List.getElem_cons_succ, List.getElem_cons_zero, List.setIfInBounds_toArray, List.set_cons_succ, List.set_cons_zero]
      refine wpAnyH_take (i := 4) (v := .agg (srow x)) rfl (by kernel_rfl) (by kernel_rfl) (by kernel_rfl) (fun _ _ _ h => h) (Or.inl ⟨by rfl, ?y14⟩) ⟨r1, R0⟩ ?r14
      case y14 =>
        intro w_ hS_
        simp only [List.getElem_toArray, List.getElem_cons_succ, List.getElem_cons_zero]
        exact run_load_part 60 _ (by rfl) (w.heap.size) 0 (by rfl) 60 (srow x) (0, 0) (srow x) _ (hS_.2) (all_row _) Try.underlying60 rfl (infoS hx)
      simp only [Act.put, List.getElem_toArray, List.getElem_cons_succ, List.getElem_cons_zero, List.setIfInBounds_toArray, List.set_cons_succ, List.set_cons_zero]
      refine wpAnyH_one (k := 5) (fuel := 0) (by kernel_rfl) rfl (by kernel_rfl) (fun K_ hK => ?_)
      refine wp_call_ex (f := 51) (R := fun v_ w_ => v_ = .bool (mt (gs l k) x) ∧ Below w1.heap.size w1 w_) (by kernel_rfl) ((l_meet (gs l k) x ok1 hx w1).mono (fun e_ w_ h_ => ⟨_, h_.1, rfl, h_.2⟩)) (fun v_ w2 hX_ => ?_)
      obtain ⟨rfl, hb_⟩ := hX_
      replace r1 := rangeAt_keep r1 (hb_.block b1 hb9)
      replace R0 := keep hb_ R0
      replace hw := Below.after hw hb_
      clear hb_
      refine hK _ _ ⟨r1, R0⟩ ?_
      simp only [Act.put, List.getElem_toArray, List.getElem_cons_succ, List.getElem_cons_zero, List.setIfInBounds_toArray, List.set_cons_succ, List.set_cons_zero]
      clear hK
      refine wpAnyH_done (by kernel_rfl) ?_ _
      refine NoPanic.normal ?_
      cases hmt : mt (gs l k) x
      · have htk := hn1 hmt
        clear hn1 hn2
        go_wp2_with (fail)
        refine ⟨⟨k + 1, by omega, by go_num, hw, R0, htk⟩, ?_⟩
        simp [intOf]; omega
      · have hf := hn2 hmt
        clear hn1 hn2
        go_wp2_with (fail)
        go_ret
        exact ⟨by rw [hf]; rfl, hw⟩
    · obtain rfl : k = l.length := by omega
      have hd : decide ((l.length : Int) < (l.length : Int)) = false := by simp
      have hf : hsm l x = false := by have := htk.out; rwa [List.take_length] at this
      go_wp2_with (fail)
      go_ret
      exact ⟨by rw [hf]; rfl, hw⟩
/-- A spare of two bytes and a number. -/
def spo (h n m : Int) : Sr := ⟨h :: zr 31, n, m :: zr 31⟩
theorem spo_ok (h n m : Int) : (spo h n m).ok := ⟨rfl, rfl⟩
theorem bk1 (h : Int) : Try.prog.built 40 [(0, .int .u8 h)] = some (irow .u8 (h :: zr 31)) := by kernel_rfl
theorem bsp (h n m : Int) : Try.prog.built 60 [(0, .agg (irow .u8 (h :: zr 31))), (1, .int .u32 n), (2, .agg (irow .u8 (m :: zr 31)))] = some (srow (spo h n m)) := builtS (spo h n m) (spo_ok h n m)
set_option maxRecDepth 100000 in
set_option maxHeartbeats 4000000 in
theorem l_spareOf (h n m : Int) (w : World) : Calls Try.prog 46 #[.int .u8 h, .int .u32 n, .int .u8 m] w fun e w' => e = .returned (.agg (srow (spo h n m))) ∧ Below w.heap.size w w' := by
  have R0 := hp1_0 w (.cells (srow zsr) 60)
  have hw : Below w.heap.size w (w.alloc (.cells (srow zsr) 60)) := (Below.refl _ _).alloc (Nat.le_refl _) _
  have hk := spo_ok h n m
  go_enter Try.func46, Try.ntmps46
  go_wp2_with (first | (refine wpList_alloc rfl 60 rfl (srow zsr) zsp ?_) | (refine wpList_build_as rfl 40 _ rfl [(0, .int .u8 h)] rfl (irow .u8 (h :: zr 31)) (bk1 h) ?_) | (refine wpList_build_as rfl 40 _ rfl [(0, .int .u8 m)] rfl (irow .u8 (m :: zr 31)) (bk1 m) ?_) | (refine wpList_build_as rfl 60 _ rfl [(0, .agg (irow .u8 (h :: zr 31))), (1, .int .u32 n), (2, .agg (irow .u8 (m :: zr 31)))] rfl (srow (spo h n m)) (bsp h n m) ?_) | (refine wpList_store_row rfl 60 _ _ rfl (w.heap.size) (srow (spo h n m)) rfl rfl 60 _ R0 (infoS hk) (by rw [srow_size zsr_ok, srow_size hk]) (srow_one _) ?_) | fail)
  exact bodyPost_ret (results_cell_row Try.results46 _ _ w.heap.size _ _ _ _ rfl (setRow_heap _ w.heap.size _ (srow (spo h n m)) _ _ R0) Try.underlying60 rfl (infoS hk)) rfl ⟨rfl, below_setRow hw (Nat.le_refl _) (srow (spo h n m))⟩

end Go.Proofs.Ytebgdenfaiinmaa
