import Derived.Test.YtpconccafpcpnaaDoorProg
import Derived.WalkKit
import Derived.WalkSpells
import Derived.WalkLawsBesides
import Derived.Lib.QuietBelow
import Derived.BigQuiet
import Derived.Test.YtpconccafpcpnaaDoorKa
import Derived.Test.YtpconccafpcpnaaDoorCd
import Derived.Test.YtpconccafpcpnaaDoorGs
namespace Go.Proofs.YtpconccafpcpnaaDoor
set_option maxRecDepth 100000
open Go.RowKit Go.Sort
attribute [local go_sem] setCell_drewN alloc_drewN


set_option maxRecDepth 100000 in
set_option maxHeartbeats 8000000 in
theorem turned_walk {ra rb rc rd' : Array Value} {A B C D : Int} (ha : NumOf ra A) (hb : NumOf rb B) (hc : NumOf rc C) (hd : NumOf rd' D) (on : Bool) :
    ∃ pa pb pc pd, NumOf pa (trn on ⟨A, B, C, D⟩).a ∧ NumOf pb (trn on ⟨A, B, C, D⟩).b ∧ NumOf pc (trn on ⟨A, B, C, D⟩).c ∧ NumOf pd (trn on ⟨A, B, C, D⟩).d ∧ Gives 81 #[.agg (r4 ra rb rc rd'), .bool on] (.agg (r4 pa pb pc pd)) := by
  have c1 := a_swap ha hc on
  have c2 := a_swap hb hd on
  have hpa : NumOf (if on then rc else ra) (trn on ⟨A, B, C, D⟩).a := by cases on <;> assumption
  have hpb : NumOf (if on then rd' else rb) (trn on ⟨A, B, C, D⟩).b := by cases on <;> assumption
  have hpc : NumOf (if on then ra else rc) (trn on ⟨A, B, C, D⟩).c := by cases on <;> assumption
  have hpd : NumOf (if on then rb else rd') (trn on ⟨A, B, C, D⟩).d := by cases on <;> assumption
  generalize (if on then rc else ra) = pa at *
  generalize (if on then rd' else rb) = pb at *
  generalize (if on then ra else rc) = pc at *
  generalize (if on then rb else rd') = pd at *
  generalize trn on ⟨A, B, C, D⟩ = T at *
  refine ⟨pa, pb, pc, pd, hpa, hpb, hpc, hpd, fun w => ?_⟩
  have r0 := hp2_0 w (.cells (r4 ra rb rc rd') 111) (.cells #[.int .u64 0, .int .u64 0, .int .u64 0, .int .u64 0, .int .u64 0, .int .u64 0, .int .u64 0, .int .u64 0, .int .u64 0, .int .u64 0, .int .u64 0, .int .u64 0, .int .u64 0, .int .u64 0, .int .u64 0, .int .u64 0, .int .u64 0, .int .u64 0, .int .u64 0, .int .u64 0] 111)
  have r1 := hp2_1 w (.cells (r4 ra rb rc rd') 111) (.cells #[.int .u64 0, .int .u64 0, .int .u64 0, .int .u64 0, .int .u64 0, .int .u64 0, .int .u64 0, .int .u64 0, .int .u64 0, .int .u64 0, .int .u64 0, .int .u64 0, .int .u64 0, .int .u64 0, .int .u64 0, .int .u64 0, .int .u64 0, .int .u64 0, .int .u64 0, .int .u64 0] 111)
  have hw : Below w.heap.size w ((w.alloc (.cells (r4 ra rb rc rd') 111)).alloc (.cells #[.int .u64 0, .int .u64 0, .int .u64 0, .int .u64 0, .int .u64 0, .int .u64 0, .int .u64 0, .int .u64 0, .int .u64 0, .int .u64 0, .int .u64 0, .int .u64 0, .int .u64 0, .int .u64 0, .int .u64 0, .int .u64 0, .int .u64 0, .int .u64 0, .int .u64 0, .int .u64 0] 111)) := ((Below.refl _ _).alloc (Nat.le_refl _) _).alloc (by simp) _
  go_enter Tryd.func81, Tryd.ntmps81
  iterate 9 go_step
  generalize ((w.alloc (.cells (r4 ra rb rc rd') 111)).alloc (.cells #[.int .u64 0, .int .u64 0, .int .u64 0, .int .u64 0, .int .u64 0, .int .u64 0, .int .u64 0, .int .u64 0, .int .u64 0, .int .u64 0, .int .u64 0, .int .u64 0, .int .u64 0, .int .u64 0, .int .u64 0, .int .u64 0, .int .u64 0, .int .u64 0, .int .u64 0, .int .u64 0] 111)) = w0 at *
  go_wp2_with (first | (refine wpList_load_want rfl 111 _ rfl (w.heap.size) rfl 111 (r4 ra rb rc rd') (0, 0) _ r0 Tryd.underlying111 rfl (nums_info ha.size hb.size hc.size hd.size) ?_) | (refine wpList_load_part rfl 26 _ rfl (w.heap.size) 0 rfl 111 (r4 ra rb rc rd') (0, 0) ra _ r0 p_0 Tryd.underlying26 rfl ha.info ?_) | (refine wpList_load_part rfl 26 _ rfl (w.heap.size) 5 rfl 111 (r4 ra rb rc rd') (0, 0) rb _ r0 (p5_1 ha.size) Tryd.underlying26 rfl hb.info ?_) | (refine wpList_load_part rfl 26 _ rfl (w.heap.size) 10 rfl 111 (r4 ra rb rc rd') (0, 0) rc _ r0 (p5_2 ha.size hb.size) Tryd.underlying26 rfl hc.info ?_) | (refine wpList_load_part rfl 26 _ rfl (w.heap.size) 15 rfl 111 (r4 ra rb rc rd') (0, 0) rd' _ r0 (p5_3 ha.size hb.size hc.size) Tryd.underlying26 rfl hd.info ?_) | fail)
  refine (c1.at _).mono ?_
  rintro e w1 ⟨rfl, hb1⟩
  replace r0 := keep hb1 r0
  replace r1 := keep hb1 r1
  replace hw := Below.after hw hb1
  clear hb1
  have r0' : ((w1.setRow (w.heap.size) (r4 pa rb rc rd')).setRow (w.heap.size) (r4 pa rb pc rd')).heap[w.heap.size]? = some (.cells (r4 pa rb pc rd') 111 (0, 0)) := setRow_heap _ _ _ _ _ _ (setRow_heap _ _ _ _ _ _ r0)
  have r1' : ((w1.setRow (w.heap.size) (r4 pa rb rc rd')).setRow (w.heap.size) (r4 pa rb pc rd')).heap[w.heap.size + 1]? = some (.cells #[.int .u64 0, .int .u64 0, .int .u64 0, .int .u64 0, .int .u64 0, .int .u64 0, .int .u64 0, .int .u64 0, .int .u64 0, .int .u64 0, .int .u64 0, .int .u64 0, .int .u64 0, .int .u64 0, .int .u64 0, .int .u64 0, .int .u64 0, .int .u64 0, .int .u64 0, .int .u64 0] 111 (0, 0)) := (setRow_other _ _ _ _ (by omega)).trans ((setRow_other _ _ _ _ (by omega)).trans r1)
  have hw' : Below w.heap.size w ((w1.setRow (w.heap.size) (r4 pa rb rc rd')).setRow (w.heap.size) (r4 pa rb pc rd')) := below_setRow (below_setRow hw (Nat.le_refl _) _) (Nat.le_refl _) _
  go_wp2_with (first | (refine wpList_store_part rfl 26 _ _ rfl (w.heap.size) 0 pa rfl rfl 111 (r4 ra rb rc rd') (r4 pa rb rc rd') r0 (by rw [nums_size ha.size hb.size hc.size hd.size, hpa.size]; decide) (ovw_0 ha.size hb.size hc.size hd.size hpa.size) hpa.info hpa.one ?_) | (refine wpList_store_part rfl 26 _ _ rfl (w.heap.size) 10 pc rfl rfl 111 (r4 pa rb rc rd') (r4 pa rb pc rd') (setRow_heap w1 (w.heap.size) _ (r4 pa rb rc rd') _ _ r0) (by rw [nums_size hpa.size hb.size hc.size hd.size, hpc.size]; decide) (ovw_2 hpa.size hb.size hc.size hd.size hpc.size) hpc.info hpc.one ?_) | (refine wpList_load_want rfl 111 _ rfl (w.heap.size) rfl 111 (r4 pa rb pc rd') (0, 0) _ r0' Tryd.underlying111 rfl (nums_info hpa.size hb.size hpc.size hd.size) ?_) | (refine wpList_load_part rfl 26 _ rfl (w.heap.size) 0 rfl 111 (r4 pa rb pc rd') (0, 0) pa _ r0' p_0 Tryd.underlying26 rfl hpa.info ?_) | (refine wpList_load_part rfl 26 _ rfl (w.heap.size) 5 rfl 111 (r4 pa rb pc rd') (0, 0) rb _ r0' (p5_1 hpa.size) Tryd.underlying26 rfl hb.info ?_) | (refine wpList_load_part rfl 26 _ rfl (w.heap.size) 10 rfl 111 (r4 pa rb pc rd') (0, 0) pc _ r0' (p5_2 hpa.size hb.size) Tryd.underlying26 rfl hpc.info ?_) | (refine wpList_load_part rfl 26 _ rfl (w.heap.size) 15 rfl 111 (r4 pa rb pc rd') (0, 0) rd' _ r0' (p5_3 hpa.size hb.size hpc.size) Tryd.underlying26 rfl hd.info ?_) | fail)
  generalize ((w1.setRow (w.heap.size) (r4 pa rb rc rd')).setRow (w.heap.size) (r4 pa rb pc rd')) = w2 at *
  clear r0 r1 hw
  refine (c2.at _).mono ?_
  rintro e w3 ⟨rfl, hb1⟩
  have r0 := keep hb1 r0'
  have r1 := keep hb1 r1'
  have hw := Below.after hw' hb1
  clear hb1 r0' r1' hw'
  have r0' : ((w3.setRow (w.heap.size) (r4 pa pb pc rd')).setRow (w.heap.size) (r4 pa pb pc pd)).heap[w.heap.size]? = some (.cells (r4 pa pb pc pd) 111 (0, 0)) := setRow_heap _ _ _ _ _ _ (setRow_heap _ _ _ _ _ _ r0)
  have r1' : ((w3.setRow (w.heap.size) (r4 pa pb pc rd')).setRow (w.heap.size) (r4 pa pb pc pd)).heap[w.heap.size + 1]? = some (.cells #[.int .u64 0, .int .u64 0, .int .u64 0, .int .u64 0, .int .u64 0, .int .u64 0, .int .u64 0, .int .u64 0, .int .u64 0, .int .u64 0, .int .u64 0, .int .u64 0, .int .u64 0, .int .u64 0, .int .u64 0, .int .u64 0, .int .u64 0, .int .u64 0, .int .u64 0, .int .u64 0] 111 (0, 0)) := (setRow_other _ _ _ _ (by omega)).trans ((setRow_other _ _ _ _ (by omega)).trans r1)
  have hw' : Below w.heap.size w ((w3.setRow (w.heap.size) (r4 pa pb pc rd')).setRow (w.heap.size) (r4 pa pb pc pd)) := below_setRow (below_setRow hw (Nat.le_refl _) _) (Nat.le_refl _) _
  go_wp2_with (first | (refine wpList_store_part rfl 26 _ _ rfl (w.heap.size) 5 pb rfl rfl 111 (r4 pa rb pc rd') (r4 pa pb pc rd') r0 (by rw [nums_size hpa.size hb.size hpc.size hd.size, hpb.size]; decide) (ovw_1 hpa.size hb.size hpc.size hd.size hpb.size) hpb.info hpb.one ?_) | (refine wpList_store_part rfl 26 _ _ rfl (w.heap.size) 15 pd rfl rfl 111 (r4 pa pb pc rd') (r4 pa pb pc pd) (setRow_heap w3 (w.heap.size) _ (r4 pa pb pc rd') _ _ r0) (by rw [nums_size hpa.size hpb.size hpc.size hd.size, hpd.size]; decide) (ovw_3 hpa.size hpb.size hpc.size hd.size hpd.size) hpd.info hpd.one ?_) | (refine wpList_load_want rfl 111 _ rfl (w.heap.size) rfl 111 (r4 pa pb pc pd) (0, 0) _ r0' Tryd.underlying111 rfl (nums_info hpa.size hpb.size hpc.size hpd.size) ?_) | (refine wpList_store_row rfl 111 _ _ rfl (w.heap.size + 1) (r4 pa pb pc pd) rfl rfl 111 _ r1' (nums_info hpa.size hpb.size hpc.size hpd.size) (nums_size hpa.size hpb.size hpc.size hpd.size).symm (r4_one hpa.one hpb.one hpc.one hpd.one) ?_) | fail)
  exact bodyPost_ret (v := .agg (r4 pa pb pc pd)) (results_cell_row Tryd.results81 _ _ (w.heap.size + 1) _ (r4 pa pb pc pd) _ _ rfl (setRow_heap _ _ _ _ _ _ r1') Tryd.underlying111 rfl (nums_info hpa.size hpb.size hpc.size hpd.size)) rfl ⟨rfl, below_setRow hw' (by omega) _⟩

end Go.Proofs.YtpconccafpcpnaaDoor

