import Derived.Test.YtjofbnilhkmpeaaDoorProg
import Derived.WalkKit
import Derived.WalkSpells
import Derived.WalkLawsBesides
import Derived.Lib.QuietBelow
import Derived.BigQuiet
import Derived.OrdersHeld
import Derived.Deep.RegionHeld3
import Derived.OwnWalk
import Derived.Laws.MakeOwn
import Derived.Test.YtjofbnilhkmpeaaDoorKa
import Derived.Test.YtjofbnilhkmpeaaDoorRtf
namespace Go.Proofs.YtjofbnilhkmpeaaDoor
set_option maxRecDepth 100000
open Go Go.RowKit Go.Sort Go.ChangeMaps Go.MapKept
attribute [local go_sem] setCell_drewN alloc_drewN

/-- A side in memory: its state, and its store of spares. -/
structure StR (W : World) (base g b : Nat) (v : Value) (most : Int) (l : List Sr) (s : Stt) (T : TypeId) : Prop where
  row : W.heap[g]? = some (.cells (sdrow s most v (some b)) T (0, 0))
  own : W.ownsRow base 77 33 v l.length (lbs l)
  map : MapIs W b lenc (ents l)
  ok : AllOk l
  nod : (l.map Sr.lb).Nodup
  most0 : 0 ≤ most ∧ most ≤ 2000
  len : (l.length : Int) ≤ most
  bg : base ≤ g
  bb : base ≤ b
  ne : v.ownBlock ≠ some g
  sok : s.ok
theorem sd_tail {s : Stt} (h : s.ok) (R : List Value) (j : Nat) : ((stlx s R).toArray)[332 + j]? = R[j]? := by
  have e : stlx s R = stlx s [] ++ R := by simp only [stlx, List.append_assoc, List.append_nil, List.cons_append, List.nil_append]
  rw [e, List.getElem?_toArray, List.getElem?_append_right (by rw [stlx_len h]; simp), stlx_len h]
  congr 1
  simp
theorem StR.c0 {W : World} {base g b : Nat} {v : Value} {most : Int} {l : List Sr} {s : Stt} {T : TypeId} (h : StR W base g b v most l s T) : W.cell? ⟨g, 332, none⟩ = some (.int .i64 most) := (cell_of_row _ _ _ _ _ _ h.row).trans (sd_tail h.sok _ 0)
theorem StR.c1 {W : World} {base g b : Nat} {v : Value} {most : Int} {l : List Sr} {s : Stt} {T : TypeId} (h : StR W base g b v most l s T) : W.cell? ⟨g, 333, none⟩ = some v := (cell_of_row _ _ _ _ _ _ h.row).trans (sd_tail h.sok _ 1)
theorem StR.c2 {W : World} {base g b : Nat} {v : Value} {most : Int} {l : List Sr} {s : Stt} {T : TypeId} (h : StR W base g b v most l s T) : W.cell? ⟨g, 334, none⟩ = some (.map (some b)) := (cell_of_row _ _ _ _ _ _ h.row).trans (sd_tail h.sok _ 2)
theorem StR.low {W : World} {base g b : Nat} {v : Value} {most : Int} {l : List Sr} {s : Stt} {T : TypeId} (h : StR W base g b v most l s T) : ∀ k, own3 g b v k → base ≤ k ∧ k < W.heap.size := by
  rintro k (rfl | rfl | e)
  · exact ⟨h.bg, lt_of_row h.row⟩
  · exact ⟨h.bb, h.map.lt⟩
  · exact h.own.lt k e
theorem StR.move {W V : World} {base g b : Nat} {v : Value} {most : Int} {l : List Sr} {s : Stt} {T : TypeId} (h : StR W base g b v most l s T) (hm : ∀ k, own3 g b v k → V.heap[k]? = W.heap[k]?) : StR V base g b v most l s T :=
  ⟨(hm g (.inl rfl)).trans h.row, own_move h.own (fun k e => hm k (.inr (.inr e))), h.map.row (fun _ ho => (hm b (.inr (.inl rfl))).trans ho), h.ok, h.nod, h.most0, h.len, h.bg, h.bb, h.ne, h.sok⟩
theorem StR.keep {W V : World} {base g b : Nat} {v : Value} {most : Int} {l : List Sr} {s : Stt} {T : TypeId} (h : StR W base g b v most l s T) (hb : Below W.heap.size W V) : StR V base g b v most l s T := h.move (fun k e => hb.block k (h.low k e).2)
theorem StR.blk {W : World} {base g b : Nat} {ao : Option Addr} {n cap : Nat} {most : Int} {l : List Sr} {s : Stt} {T : TypeId} (h : StR W base g b (.slice ao n cap) most l s T) {i : Nat} (hi : i < l.length) : ∃ gl, ao = some ⟨gl, 0, none⟩ ∧ n = l.length ∧ W.rangeAt gl (i * 33) (lbl (gs l i)) := by
  have h1 := h.own
  have h0 := h.own
  obtain ⟨_, ⟨e, h3⟩ | ⟨gl, cap2, cur, e, hb, hg, _⟩⟩ := h1
  · omega
  · cases e
    exact ⟨gl, rfl, rfl, range_own h0 (flat_mem (fun s hs => lbl_len (h.ok s hs)) hi)⟩
theorem look_atR {W : World} {base g b : Nat} {v : Value} {most : Int} {l : List Sr} {s : Stt} {T : TypeId} (h : StR W base g b v most l s T) {i : Nat} (hi : i < l.length) : (Instr.lookup 61 (.map (some b)) (lenc (gs l i).lb) false).run Tryd.prog W = .ok (.agg (irow .u8 (gs l i).m)) W := by
  have := run_lookm kLb Tryd.underlying61 W (zky W) b (ents l) h.map (ents_ok h.ok) (gs l i).lb (h.ok.at hi).1 false
  rw [aget_ents, fnd_at h.nod hi] at this
  exact this
set_option maxRecDepth 100000 in
set_option maxHeartbeats 4000000 in
theorem t_Len (base g b : Nat) (v : Value) (most : Int) (l : List Sr) (s : Stt) (T : TypeId) (w : World) (hS : StR w base g b v most l s T) : Calls Tryd.prog 22 #[.pointer (some ⟨g, 332, none⟩)] w fun e w' => e = .returned (.int .i64 l.length) ∧ w' = w := by
  obtain ⟨ao, cap, rfl⟩ := slen_own hS.own
  have c1 := hS.c1
  go_enter Tryd.func22, Tryd.ntmps22
  go_wp2_with (fail)
  go_ret
  exact ⟨rfl, rfl⟩
set_option maxRecDepth 100000 in
set_option maxHeartbeats 4000000 in
theorem t_List (base g b : Nat) (v : Value) (most : Int) (l : List Sr) (s : Stt) (T : TypeId) (w : World) (hS : StR w base g b v most l s T) : Calls Tryd.prog 17 #[.pointer (some ⟨g, 332, none⟩)] w fun e w' => ∃ u, e = .returned u ∧ OwnS w' w.heap.size u l ∧ Below w.heap.size w w' := by
  obtain ⟨i0, hi, hz0, hz1, hz2⟩ := infoSr
  have hok := hS.ok
  have hm0 := hS.most0
  have hln := hS.len
  have hlo : ∀ k, own3 g b v k → k < w.heap.size := fun k hk => (hS.low k hk).2
  obtain ⟨ao, cap, rfl⟩ := slen_own hS.own
  have c1 := hS.c1
  obtain ⟨w0, hmk, hO0, hg0⟩ := run_make_own (P := Tryd.prog) w w.heap.size 36 52 i0 (.agg (srow zsr)) 65 Tryd.underlying36 hi hz0 hz1 .i64 .i64 l.length (by rw [hz2]; omega) (by unfold maxLen; omega) (Nat.le_refl _)
  have hw0 : Below w.heap.size w w0 := (Below.refl _ _).grown hg0 (Nat.le_refl _) (fun k e => by cases e)
  have hS0 := hS.keep hw0
  have c2 := hS0.c1
  have cL := t_Len base g b _ most l s T w hS
  go_enter Tryd.func17, Tryd.ntmps17
  go_wp2_with (fail)
  refine cL.mono ?_
  rintro e_ w1 ⟨rfl, h1_⟩
  subst w1
  clear cL
  go_wp2_with (fail)
  clear hmk c1 c2
  go_loopw [3, 14] (fun u3 i wr => ∃ k : Nat, k ≤ l.length ∧ i = .int .i64 k ∧ OwnS wr w.heap.size u3 (l.take k) ∧ Below w.heap.size w wr) (fun _ i _ => l.length - (intOf i).toNat)
  case atStart => exact ⟨0, by omega, rfl, ⟨by simpa [sps] using hO0, AllOk.nil⟩, hw0⟩
  case round =>
    clear hO0 hw0 hS0 hg0
    obtain ⟨k, hk, rfl, hO, hw⟩ := hrel
    by_cases hlt : k < l.length
    · have hd : decide ((k : Int) < (l.length : Int)) = true := by simp; omega
      obtain ⟨gl, rfl, _, hr⟩ := hS.blk hlt
      have hko := hok.at hlt
      have hk1 : 0 ≤ (k : Int) ∧ (k : Int) < (l.length : Int) := by omega
      have hgl : gl < w.heap.size := hlo gl (.inr (.inr rfl))
      replace hr := rangeAt_keep hr (hw.block gl hgl)
      replace hS := hS.keep hw
      have hil : (Tryd.prog.info? 77).map (·.size) = some (lbl (gs l k)).length := by rw [lbl_len hko]; kernel_rfl
      have hlo5 := fun k (e : u3.ownBlock = some k) => (hO.1.lt k e).2
      have sw := hw.size
      have z_ := hp1_0 wr (.cells (chc (zr 32) 0) 77)
      go_wp2_with (first | (refine wpList_load_mid rfl 77 _ rfl gl (k * 33) rfl (lbl (gs l k)) _ hr Tryd.underlying77 rfl hil ?_) | (refine wpList_alloc rfl 77 rfl (chc (zr 32) 0) zlb ?_) | (refine wpList_store_row rfl 77 _ _ rfl (wr.heap.size) (chc (gs l k).h (gs l k).n) rfl rfl 77 _ z_ (infoL _ hko.1 _) (by rw [chc_size _ (zr_len 32), chc_size _ hko.1]) (chc_one _ _) ?_; refine wpList_stay ?_) | fail)
      unfold WpStay
      try simp only [Act.put, List.setIfInBounds_toArray, List.set_cons_succ, List.set_cons_zero]
      have R5 := setRow_heap (wr.alloc (.cells (chc (zr 32) 0) 77)) wr.heap.size _ (chc (gs l k).h (gs l k).n) _ _ z_
      have hb_ : Below wr.heap.size wr ((wr.alloc (.cells (chc (zr 32) 0) 77)).setRow wr.heap.size (chc (gs l k).h (gs l k).n)) := below_setRow ((Below.refl _ _).alloc (Nat.le_refl _) _) (Nat.le_refl _) _
      have sz_g5 := hb_.size
      replace hS := hS.keep hb_
      replace hO := hO.keep hb_
      replace hw := Below.after hw hb_
      clear hb_ z_
      generalize ((wr.alloc (.cells (chc (zr 32) 0) 77)).setRow wr.heap.size (chc (gs l k).h (gs l k).n)) = w1 at *
      generalize wr.heap.size = g5 at *
      go_wp2_with (fail)
      have hbd : Below w1.heap.size w1 w1.drew := below_drN (Below.refl _ _) 1
      replace R5 := keep hbd R5
      replace hS := hS.keep hbd
      replace hO := hO.keep hbd
      replace hw := Below.after hw hbd
      clear hbd
      refine wp_region_noPanic ?_
      refine wp_region_held (S := fun W => StR W base g b (.slice (some ⟨gl, 0, none⟩) l.length cap) most l s T ∧ W.heap[g5]? = some (.cells (chc (gs l k).h (gs l k).n) 77 (0, 0))) (by kernel_rfl) ?_
      change wpAnyH _ _ _ _ _ _ _ _ (World.drew _)
      generalize w1.drew = w2 at *
      refine wpAnyH_take (i := 0) (v := ?v1) rfl (by kernel_rfl) (by kernel_rfl) (by kernel_rfl) (fun _ _ _ h => h) (Or.inl ⟨by rfl, ?y1⟩) ⟨hS, R5⟩ ?r1
      case y1 =>
        intro w_ hS_
        go_simp
        try with_reducible rfl
      simp only [Act.put, List.getElem_toArray, List.getElem_cons_zero, List.setIfInBounds_toArray, List.set_cons_succ, List.set_cons_zero]
      refine wpAnyH_take (i := 1) (v := ?v2) rfl (by kernel_rfl) (by kernel_rfl) (by kernel_rfl) (fun _ _ _ h => h) (Or.inl ⟨by rfl, ?y2⟩) ⟨hS, R5⟩ ?r2
      case y2 =>
        intro w_ hS_
        go_simp
        try with_reducible rfl
      simp only [Act.put, List.getElem_toArray, List.getElem_cons_succ, List.getElem_cons_zero, List.setIfInBounds_toArray, List.set_cons_succ, List.set_cons_zero]
      refine wpAnyH_take (i := 2) (v := .agg (irow .u8 (gs l k).h)) rfl (by kernel_rfl) (by kernel_rfl) (by kernel_rfl) (fun _ _ _ h => h) (Or.inl ⟨by rfl, ?y3⟩) ⟨hS, R5⟩ ?r3
      case y3 =>
        intro w_ hS_
        simp only [List.getElem_toArray, List.getElem_cons_succ, List.getElem_cons_zero]
        exact run_load_part 23 _ (by rfl) (g5) 0 (by rfl) 77 (chc (gs l k).h (gs l k).n) (0, 0) (irow .u8 (gs l k).h) _ (hS_.2) (chc_key _ hko.1 _) Tryd.underlying23 rfl (infok8 _ hko.1)
      simp only [Act.put, List.getElem_toArray, List.getElem_cons_succ, List.getElem_cons_zero, List.setIfInBounds_toArray, List.set_cons_succ, List.set_cons_zero]
      refine wpAnyH_take (i := 3) (v := ?v4) rfl (by kernel_rfl) (by kernel_rfl) (by kernel_rfl) (fun _ _ _ h => h) (Or.inl ⟨by rfl, ?y4⟩) ⟨hS, R5⟩ ?r4
      case y4 =>
        intro w_ hS_
        go_simp
        try with_reducible rfl
      simp only [Act.put, List.getElem_toArray, List.getElem_cons_succ, List.getElem_cons_zero, List.setIfInBounds_toArray, List.set_cons_succ, List.set_cons_zero]
      refine wpAnyH_take (i := 4) (v := .int .u32 (gs l k).n) rfl (by kernel_rfl) (by kernel_rfl) (by kernel_rfl) (fun _ _ _ h => h) (Or.inl ⟨by rfl, ?y5⟩) ⟨hS, R5⟩ ?r5
      case y5 =>
        intro w_ hS_
        have c_ : w_.cell? ⟨g5, 32, none⟩ = some (.int .u32 (gs l k).n) := by rw [cell_of_row _ _ _ _ _ _ hS_.2, chc_n _ hko.1]
        go_simp
        try with_reducible rfl
      simp only [Act.put, List.getElem_toArray, List.getElem_cons_succ, List.getElem_cons_zero, List.setIfInBounds_toArray, List.set_cons_succ, List.set_cons_zero]
      refine wpAnyH_take (i := 5) (v := ?v6) rfl (by kernel_rfl) (by kernel_rfl) (by kernel_rfl) (fun _ _ _ h => h) (Or.inl ⟨by rfl, ?y6⟩) ⟨hS, R5⟩ ?r6
      case y6 =>
        intro w_ hS_
        go_simp
        try with_reducible rfl
      simp only [Act.put, List.getElem_toArray, List.getElem_cons_succ, List.getElem_cons_zero, List.setIfInBounds_toArray, List.set_cons_succ, List.set_cons_zero]
      refine wpAnyH_take (i := 6) (v := ?v7) rfl (by kernel_rfl) (by kernel_rfl) (by kernel_rfl) (fun _ _ _ h => h) (Or.inl ⟨by rfl, ?y7⟩) ⟨hS, R5⟩ ?r7
      case y7 =>
        intro w_ hS_
        go_simp
        try with_reducible rfl
      simp only [Act.put, List.getElem_toArray, List.getElem_cons_succ, List.getElem_cons_zero, List.setIfInBounds_toArray, List.set_cons_succ, List.set_cons_zero]
      refine wpAnyH_take (i := 7) (v := ?v8) rfl (by kernel_rfl) (by kernel_rfl) (by kernel_rfl) (fun _ _ _ h => h) (Or.inl ⟨by rfl, ?y8⟩) ⟨hS, R5⟩ ?r8
      case y8 =>
        intro w_ hS_
        go_simp
        try with_reducible rfl
      simp only [Act.put, List.getElem_toArray, List.getElem_cons_succ, List.getElem_cons_zero, List.setIfInBounds_toArray, List.set_cons_succ, List.set_cons_zero]
      refine wpAnyH_take (i := 8) (v := .map (some b)) rfl (by kernel_rfl) (by kernel_rfl) (by kernel_rfl) (fun _ _ _ h => h) (Or.inl ⟨by rfl, ?y9⟩) ⟨hS, R5⟩ ?r9
      case y9 =>
        intro w_ hS_
        have c_ := hS_.1.c2
        go_simp
        try with_reducible rfl
      simp only [Act.put, List.getElem_toArray, List.getElem_cons_succ, List.getElem_cons_zero, List.setIfInBounds_toArray, List.set_cons_succ, List.set_cons_zero]
      refine wpAnyH_take (i := 9) (v := .agg (chc (gs l k).h (gs l k).n)) rfl (by kernel_rfl) (by kernel_rfl) (by kernel_rfl) (fun _ _ _ h => h) (Or.inl ⟨by rfl, ?y10⟩) ⟨hS, R5⟩ ?r10
      case y10 =>
        intro w_ hS_
        simp only [List.getElem_toArray, List.getElem_cons_succ, List.getElem_cons_zero]
        exact run_load_part 77 _ (by rfl) (g5) 0 (by rfl) 77 (chc (gs l k).h (gs l k).n) (0, 0) (chc (gs l k).h (gs l k).n) _ (hS_.2) (all_row _) Tryd.underlying77 rfl (infoL _ hko.1 _)
      simp only [Act.put, List.getElem_toArray, List.getElem_cons_succ, List.getElem_cons_zero, List.setIfInBounds_toArray, List.set_cons_succ, List.set_cons_zero]
      refine wpAnyH_take (i := 10) (v := .agg (irow .u8 (gs l k).m)) rfl (by kernel_rfl) (by kernel_rfl) (by kernel_rfl) (fun _ _ _ h => h) (Or.inl ⟨by rfl, ?y11⟩) ⟨hS, R5⟩ ?r11
      case y11 =>
        intro w_ hS_
        simp only [List.getElem_toArray, List.getElem_cons_succ, List.getElem_cons_zero]
        exact run_look_op 61 _ _ false (by rfl) _ (lenc (gs l k).lb) _ (by rfl) (by rfl) (look_atR hS_.1 hlt)
      simp only [Act.put, List.getElem_toArray, List.getElem_cons_succ, List.getElem_cons_zero, List.setIfInBounds_toArray, List.set_cons_succ, List.set_cons_zero]
      refine wpAnyH_take (i := 11) (v := .agg (srow (gs l k))) rfl (by kernel_rfl) (by kernel_rfl) (by kernel_rfl) (fun _ _ _ h => h) (Or.inl ⟨by rfl, ?y12⟩) ⟨hS, R5⟩ ?r12
      case y12 =>
        intro w_ hS_
        simp only [List.getElem_toArray, List.getElem_cons_succ, List.getElem_cons_zero]
        exact run_build_op 52 _ (by rfl) [(0, .agg (irow .u8 (gs l k).h)), (1, .int .u32 (gs l k).n), (2, .agg (irow .u8 (gs l k).m))] (by rfl) _ (builtS (gs l k) hko)
      simp only [Act.put, List.getElem_toArray, List.getElem_cons_succ, List.getElem_cons_zero, List.setIfInBounds_toArray, List.set_cons_succ, List.set_cons_zero]
      refine wpAnyH_one (k := 12) (fuel := 2) (by kernel_rfl) rfl (by kernel_rfl) (fun K_ hK => ?_)
      refine wp_world_op _ _ (run_bsl_op 36 _ rfl rfl (run_bslS (gs l k) hko w2)) ?_
      have hb_ : Below w2.heap.size w2 (w2.alloc (.cells (srow (gs l k)) 52)) := (Below.refl _ _).alloc (Nat.le_refl _) _
      have hq1 := spl_one w2 (gs l k) hko
      have lt5 := lt_of_row R5
      replace R5 := keep hb_ R5
      replace hS := hS.keep hb_
      replace hO := hO.keep hb_
      replace hw := Below.after hw hb_
      clear hb_
      refine hK _ _ ⟨hS, R5⟩ ?_
      simp only [Act.put, List.getElem_toArray, List.getElem_cons_succ, List.getElem_cons_zero, List.setIfInBounds_toArray, List.set_cons_succ, List.set_cons_zero]
      clear hK
      generalize w2.alloc (.cells (srow (gs l k)) 52) = w3 at *
      generalize w2.heap.size = gz at *
      refine wpAnyH_one (k := 13) (fuel := 1) (by kernel_rfl) rfl (by kernel_rfl) (fun K_ hK => ?_)
      refine wp_append_S (.tmp 18) (.tmp 30) rfl w.heap.size u3 (l.take k) rfl hO _ [(gs l k)] rfl hq1 (by simp; omega) hw.size (fun uN w4 hO2 hgr hnx => ?_)
      rw [← take_snocS l k hlt] at hO2
      have n5 : u3.ownBlock ≠ some g5 := fun e => by have := hlo5 _ e; omega
      replace R5 := (hgr.block g5 (lt_of_row R5) (fun e => n5 e.symm)).trans R5
      replace hS := hS.move (fun k hk => hgr.block k (hS.low k hk).2 (fun e => by have := (hO.1.lt k e.symm).1; have := hlo k hk; omega))
      replace hw := hw.grown hgr hw.size (fun k e => (hO.1.lt k e).1)
      clear hgr hO hq1
      refine hK _ _ ⟨hS, R5⟩ ?_
      simp only [Act.put, List.getElem_toArray, List.getElem_cons_succ, List.getElem_cons_zero, List.setIfInBounds_toArray, List.set_cons_succ, List.set_cons_zero]
      clear hK
      refine wpAnyH_take (i := 14) (v := ?v13) rfl (by kernel_rfl) (by kernel_rfl) (by kernel_rfl) (fun _ _ _ h => h) (Or.inl ⟨by rfl, ?y13⟩) ⟨hS, R5⟩ ?r13
      case y13 =>
        intro w_ hS_
        go_simp
        try with_reducible rfl
      simp only [Act.put, List.getElem_toArray, List.getElem_cons_succ, List.getElem_cons_zero, List.setIfInBounds_toArray, List.set_cons_succ, List.set_cons_zero]
      refine wpAnyH_done (by kernel_rfl) ?_ _
      refine NoPanic.normal ?_
      obtain ⟨ao3, n3, cap3, rfl⟩ : ∃ ao n c, uN = .slice ao n c := by obtain ⟨a_, c_, h_⟩ := slen_own hO2.1; exact ⟨a_, _, c_, h_⟩
      go_wp2_with (fail)
      refine ⟨⟨k + 1, by omega, by go_num, hO2, hw⟩, ?_⟩
      simp [intOf]; omega
    · obtain rfl : k = l.length := by omega
      have hd : decide ((l.length : Int) < (l.length : Int)) = false := by simp
      rw [List.take_length] at hO
      go_wp2_with (fail)
      go_ret
      exact ⟨_, rfl, hO, hw⟩
set_option maxRecDepth 100000 in
set_option maxHeartbeats 4000000 in
theorem a_State (base g b : Nat) (v : Value) (most : Int) (l : List Sr) (s : Stt) (w : World) (hS : StR w base g b v most l s 67) : Calls Tryd.prog 7 #[.pointer (some ⟨g, 0, none⟩)] w fun e w' => ∃ u, e = .returned (.agg (strow { s with sp := u })) ∧ OwnS w' w.heap.size u l ∧ Below w.heap.size w w' := by
  have sok := hS.sok
  have R0 := hp1_0 w (.cells (strow zst) 38)
  have hw : Below w.heap.size w (w.alloc (.cells (strow zst) 38)) := (Below.refl _ _).alloc (Nat.le_refl _) _
  have sz : w.heap.size + 1 = (w.alloc (.cells (strow zst) 38)).heap.size := by simp
  replace hS := hS.keep hw
  have RG := hS.row
  go_enter Tryd.func7, Tryd.ntmps7
  go_wp2_with (first | (refine wpList_alloc rfl 38 rfl (strow zst) zStA ?_; refine wpList_stay ?_) | fail)
  unfold WpStay
  try simp only [Act.put, List.setIfInBounds_toArray, List.set_cons_succ, List.set_cons_zero]
  generalize w.alloc (.cells (strow zst) 38) = w0 at *
  have z_ := hp1_0 w0 (.cells (strow zst) 38)
  go_wp2_with (first | (refine wpList_load_part rfl 38 _ rfl (g) 0 rfl 67 (sdrow s most v (some b)) (0, 0) (strow s) _ RG (st_all s (h := sok) _) Tryd.underlying38 rfl (infoSt sok) ?_) | (refine wpList_alloc rfl 38 rfl (strow zst) zStA ?_) | (refine wpList_store_row rfl 38 _ _ rfl (w0.heap.size) (strow s) rfl rfl 38 _ z_ (infoSt sok) (by rw [strow_size zst_ok, strow_size sok]) (strow_one sok) ?_; refine wpList_stay ?_) | fail)
  unfold WpStay
  try simp only [Act.put, List.setIfInBounds_toArray, List.set_cons_succ, List.set_cons_zero]
  have R1 := setRow_heap (w0.alloc (.cells (strow zst) 38)) w0.heap.size _ (strow s) _ _ z_
  have hb_ : Below w0.heap.size w0 ((w0.alloc (.cells (strow zst) 38)).setRow w0.heap.size (strow s)) := below_setRow ((Below.refl _ _).alloc (Nat.le_refl _) _) (Nat.le_refl _) _
  have sz_g1 := hb_.size
  have lt_R0_g1 := lt_of_row R0
  replace R0 := keep hb_ R0
  replace hS := hS.keep hb_
  replace hw := Below.after hw hb_
  clear hb_ z_
  generalize ((w0.alloc (.cells (strow zst) 38)).setRow w0.heap.size (strow s)) = w1 at *
  generalize w0.heap.size = g1 at *
  clear RG
  go_wp2_with (fail)
  refine (t_List base g b v most l s 67 w1 hS).mono ?_
  rintro e_ w2 ⟨u, rfl, hO, hb⟩
  have hk := own_one hO
  have s2 := sok.put hk
  have lt1 := hO.1.lt
  have lr1 := lt_of_row R1
  replace R0 := keep hb R0
  replace R1 := keep hb R1
  replace hw := Below.after hw hb
  clear hb hS
  have q1 := st_put sok [] u
  have hlt : ∀ k, u.ownBlock = some k → g1 < k := fun k e => by have := (lt1 k e).1; omega
  have R3 := setRow_heap w2 g1 _ (strow { s with sp := u }) _ _ R1
  have R4 := (setRow_other w2 g1 w.heap.size (strow { s with sp := u }) (by omega)).trans R0
  have hw3 := below_setRow hw (show w.heap.size ≤ g1 by omega) (strow { s with sp := u })
  have R5 := setRow_heap (w2.setRow g1 (strow { s with sp := u })) w.heap.size _ (strow { s with sp := u }) _ _ R4
  have hw5 := below_setRow hw3 (Nat.le_refl _) (strow { s with sp := u })
  have hO5 : OwnS ((w2.setRow g1 (strow { s with sp := u })).setRow w.heap.size (strow { s with sp := u })) w.heap.size u l := ⟨own_down (own_move hO.1 (fun k e => (setRow_other _ _ _ _ (by have := hlt k e; omega)).trans (setRow_other _ _ _ _ (by have := hlt k e; omega)))) (by omega), hO.2⟩
  clear lt1 hlt hO
  go_wp2_with (first | (refine wpList_store_cell rfl 36 _ _ rfl g1 331 u rfl rfl 38 (strow s) _ R1 (by rw [strow_size sok]; omega) q1 infoLS hk ?_) | (refine wpList_load_want rfl 38 _ rfl (g1) rfl 38 (strow { s with sp := u }) (0, 0) _ R3 Tryd.underlying38 rfl (infoSt s2) ?_) | (refine wpList_store_row rfl 38 _ _ rfl (w.heap.size) (strow { s with sp := u }) rfl rfl 38 _ R4 (infoSt s2) (by rw [strow_size zst_ok, strow_size s2]) (strow_one s2) ?_) | fail)
  exact bodyPost_ret (results_cell_row Tryd.results7 _ _ w.heap.size _ _ _ _ rfl R5 Tryd.underlying38 rfl (infoSt s2)) rfl ⟨u, rfl, hO5, hw5⟩
set_option maxRecDepth 100000 in
set_option maxHeartbeats 4000000 in
theorem a_Check (s : Stt) (hs : s.ok) (ha : K8 s.opr) (l : List Sr) (w : World) (hl : SpL w s.sp l) (hF : Lo.Four w) : Calls Tryd.prog 11 #[.agg (strow s)] w fun e w' => e = .returned (.int .i64 (rck s l)) ∧ Below w.heap.size w w' := by
  have R0 := hp1_0 w (.cells (strow s) 38)
  have hw : Below w.heap.size w (w.alloc (.cells (strow s) 38)) := (Below.refl _ _).alloc (Nat.le_refl _) _
  have cS := a_sideOf s hs ha l (w.alloc (.cells (strow s) 38)) (hl.keep hw) (hF.below hw)
  have sz0 : w.heap.size + 1 = (w.alloc (.cells (strow s) 38)).heap.size := by simp
  go_enter Tryd.func11, Tryd.ntmps11
  go_wp2_with (first | (refine wpList_box rfl 38 _ rfl _ rfl (bStA _) ?_) | (refine wpList_load_want rfl 38 _ rfl (w.heap.size) rfl 38 (strow s) (0, 0) _ R0 Tryd.underlying38 rfl (infoSt hs) ?_) | fail)
  refine cS.mono ?_
  rintro e_ w1 h
  rcases h with ⟨E, hne, hk, rfl, hb⟩ | ⟨g, b, v, hk, rfl, hS, hb⟩
  · replace hw := Below.after hw hb
    replace hk := hide hk
    clear hb cS
    have z_ := hp1_0 w1 (.cells (sdrow zst 0 (.slice none 0 0) none) 65)
    go_wp2_with (first | (refine wpList_alloc rfl 65 rfl (sdrow zst 0 (.slice none 0 0) none) zSdA ?_) | (refine wpList_store_row rfl 65 _ _ rfl (w1.heap.size) (sdrow zst 0 (.slice none 0 0) none) rfl rfl 65 _ z_ (infoSd zst_ok _ _ _) rfl (sdrow_one zst_ok _ _ rfl _) ?_; refine wpList_stay ?_) | fail)
    unfold WpStay
    try simp only [Act.put, List.setIfInBounds_toArray, List.set_cons_succ, List.set_cons_zero]
    have R1 := setRow_heap (w1.alloc (.cells (sdrow zst 0 (.slice none 0 0) none) 65)) w1.heap.size _ (sdrow zst 0 (.slice none 0 0) none) _ _ z_
    have hb_ : Below w1.heap.size w1 ((w1.alloc (.cells (sdrow zst 0 (.slice none 0 0) none) 65)).setRow w1.heap.size (sdrow zst 0 (.slice none 0 0) none)) := below_setRow ((Below.refl _ _).alloc (Nat.le_refl _) _) (Nat.le_refl _) _
    have sz_g2 := hb_.size
    replace hw := Below.after hw hb_
    clear hb_ z_
    generalize ((w1.alloc (.cells (sdrow zst 0 (.slice none 0 0) none) 65)).setRow w1.heap.size (sdrow zst 0 (.slice none 0 0) none)) = w2 at *
    generalize w1.heap.size = g2 at *
    go_wp2_with (fail)
    go_ret
    exact ⟨by rw [hk.out]; rfl, hw⟩
  · replace hw := Below.after hw hb
    replace hk := hide hk
    have hs2 : Stt.ok { s with sp := .slice none 0 0 } := hs.put rfl
    have hv1 : v.oneCell' = true := by
      obtain ⟨ao_, cap_, rfl⟩ := slen_own hS.own
      rfl
    clear hb cS hS
    have z_ := hp1_0 w1 (.cells (sdrow zst 0 (.slice none 0 0) none) 65)
    go_wp2_with (first | (refine wpList_alloc rfl 65 rfl (sdrow zst 0 (.slice none 0 0) none) zSdA ?_) | (refine wpList_store_row rfl 65 _ _ rfl (w1.heap.size) (sdrow { s with sp := .slice none 0 0 } s.cs v (some b)) rfl rfl 65 _ z_ (infoSd hs2 _ _ _) (by rw [sdrow_size zst_ok, sdrow_size hs2]) (sdrow_one hs2 _ _ hv1 _) ?_; refine wpList_stay ?_) | fail)
    unfold WpStay
    try simp only [Act.put, List.setIfInBounds_toArray, List.set_cons_succ, List.set_cons_zero]
    have R1 := setRow_heap (w1.alloc (.cells (sdrow zst 0 (.slice none 0 0) none) 65)) w1.heap.size _ (sdrow { s with sp := .slice none 0 0 } s.cs v (some b)) _ _ z_
    have hb_ : Below w1.heap.size w1 ((w1.alloc (.cells (sdrow zst 0 (.slice none 0 0) none) 65)).setRow w1.heap.size (sdrow { s with sp := .slice none 0 0 } s.cs v (some b))) := below_setRow ((Below.refl _ _).alloc (Nat.le_refl _) _) (Nat.le_refl _) _
    have sz_g2 := hb_.size
    replace hw := Below.after hw hb_
    clear hb_ z_
    generalize ((w1.alloc (.cells (sdrow zst 0 (.slice none 0 0) none) 65)).setRow w1.heap.size (sdrow { s with sp := .slice none 0 0 } s.cs v (some b))) = w2 at *
    generalize w1.heap.size = g2 at *
    go_wp2_with (fail)
    go_ret
    exact ⟨by rw [hk.out]; rfl, hw⟩
theorem builtRt {s : Stt} (h : s.ok) (m : Int) (v : Value) (b : Option Nat) : Tryd.prog.built 67 [(0, .agg (sdrow s m v b))] = some (sdrow s m v b) := by
  obtain ⟨cv, ck, cs, root, opr, opu, peer, ho, hp, tu, snd, shd, nsd, sn, pv, hs, rcv, rhd, nrv, rn, hr, sp⟩ := s
  obtain ⟨l_root, l_opr, l_opu, l_peer, l_snd, l_shd, l_nsd, l_rcv, l_rhd, l_nrv, _⟩ := h
  dsimp only at l_root l_opr l_opu l_peer l_snd l_shd l_nsd l_rcv l_rhd l_nrv
  obtain ⟨root0, root1, root2, root3, root4, root5, root6, root7, root8, root9, root10, root11, root12, root13, root14, root15, root16, root17, root18, root19, root20, root21, root22, root23, root24, root25, root26, root27, root28, root29, root30, root31, rfl⟩ := len32 root l_root
  obtain ⟨opr0, opr1, opr2, opr3, opr4, opr5, opr6, opr7, opr8, opr9, opr10, opr11, opr12, opr13, opr14, opr15, opr16, opr17, opr18, opr19, opr20, opr21, opr22, opr23, opr24, opr25, opr26, opr27, opr28, opr29, opr30, opr31, rfl⟩ := len32 opr l_opr
  obtain ⟨opu0, opu1, opu2, opu3, opu4, opu5, opu6, opu7, opu8, opu9, opu10, opu11, opu12, opu13, opu14, opu15, opu16, opu17, opu18, opu19, opu20, opu21, opu22, opu23, opu24, opu25, opu26, opu27, opu28, opu29, opu30, opu31, rfl⟩ := len32 opu l_opu
  obtain ⟨peer0, peer1, peer2, peer3, peer4, peer5, peer6, peer7, peer8, peer9, peer10, peer11, peer12, peer13, peer14, peer15, peer16, peer17, peer18, peer19, peer20, peer21, peer22, peer23, peer24, peer25, peer26, peer27, peer28, peer29, peer30, peer31, rfl⟩ := len32 peer l_peer
  obtain ⟨snd0, snd1, snd2, snd3, snd4, snd5, snd6, snd7, snd8, snd9, snd10, snd11, snd12, snd13, snd14, snd15, snd16, snd17, snd18, snd19, snd20, snd21, snd22, snd23, snd24, snd25, snd26, snd27, snd28, snd29, snd30, snd31, rfl⟩ := len32 snd l_snd
  obtain ⟨shd0, shd1, shd2, shd3, shd4, shd5, shd6, shd7, shd8, shd9, shd10, shd11, shd12, shd13, shd14, shd15, shd16, shd17, shd18, shd19, shd20, shd21, shd22, shd23, shd24, shd25, shd26, shd27, shd28, shd29, shd30, shd31, rfl⟩ := len32 shd l_shd
  obtain ⟨nsd0, nsd1, nsd2, nsd3, nsd4, nsd5, nsd6, nsd7, nsd8, nsd9, nsd10, nsd11, nsd12, nsd13, nsd14, nsd15, nsd16, nsd17, nsd18, nsd19, nsd20, nsd21, nsd22, nsd23, nsd24, nsd25, nsd26, nsd27, nsd28, nsd29, nsd30, nsd31, rfl⟩ := len32 nsd l_nsd
  obtain ⟨rcv0, rcv1, rcv2, rcv3, rcv4, rcv5, rcv6, rcv7, rcv8, rcv9, rcv10, rcv11, rcv12, rcv13, rcv14, rcv15, rcv16, rcv17, rcv18, rcv19, rcv20, rcv21, rcv22, rcv23, rcv24, rcv25, rcv26, rcv27, rcv28, rcv29, rcv30, rcv31, rfl⟩ := len32 rcv l_rcv
  obtain ⟨rhd0, rhd1, rhd2, rhd3, rhd4, rhd5, rhd6, rhd7, rhd8, rhd9, rhd10, rhd11, rhd12, rhd13, rhd14, rhd15, rhd16, rhd17, rhd18, rhd19, rhd20, rhd21, rhd22, rhd23, rhd24, rhd25, rhd26, rhd27, rhd28, rhd29, rhd30, rhd31, rfl⟩ := len32 rhd l_rhd
  obtain ⟨nrv0, nrv1, nrv2, nrv3, nrv4, nrv5, nrv6, nrv7, nrv8, nrv9, nrv10, nrv11, nrv12, nrv13, nrv14, nrv15, nrv16, nrv17, nrv18, nrv19, nrv20, nrv21, nrv22, nrv23, nrv24, nrv25, nrv26, nrv27, nrv28, nrv29, nrv30, nrv31, rfl⟩ := len32 nrv l_nrv
  kernel_rfl
/-- What From answers. -/
def FmR (s : Stt) (l : List Sr) (w : World) (e : Ending) (w' : World) : Prop :=
  (∃ E, E ≠ 0 ∧ rck s l = E ∧ e = .returned (.tuple #[.pointer none, .int .i64 E]) ∧ Below w.heap.size w w') ∨
  (∃ g b v, rck s l = 0 ∧ e = .returned (.tuple #[.pointer (some ⟨g, 0, none⟩), .int .i64 0]) ∧ StR w' w.heap.size g b v s.cs l { s with sp := .slice none 0 0 } 67 ∧ Below w.heap.size w w')
set_option maxRecDepth 100000 in
set_option maxHeartbeats 4000000 in
theorem a_From (s : Stt) (hs : s.ok) (ha : K8 s.opr) (l : List Sr) (w : World) (hl : SpL w s.sp l) (hF : Lo.Four w) : Calls Tryd.prog 10 #[.agg (strow s)] w (FmR s l w) := by
  unfold FmR
  have R0 := hp1_0 w (.cells (strow s) 38)
  have hw : Below w.heap.size w (w.alloc (.cells (strow s) 38)) := (Below.refl _ _).alloc (Nat.le_refl _) _
  have cS := a_sideOf s hs ha l (w.alloc (.cells (strow s) 38)) (hl.keep hw) (hF.below hw)
  have sz0 : w.heap.size + 1 = (w.alloc (.cells (strow s) 38)).heap.size := by simp
  go_enter Tryd.func10, Tryd.ntmps10
  go_wp2_with (first | (refine wpList_box rfl 38 _ rfl _ rfl (bStA _) ?_) | (refine wpList_load_want rfl 38 _ rfl (w.heap.size) rfl 38 (strow s) (0, 0) _ R0 Tryd.underlying38 rfl (infoSt hs) ?_) | fail)
  refine cS.mono ?_
  rintro e_ w1 h
  rcases h with ⟨E, hne, hk, rfl, hb⟩ | ⟨g, b, v, hk, rfl, hS, hb⟩
  · replace hw := Below.after hw hb
    have hd : (E != 0) = true := by simpa using hne
    replace hne := hide hne
    replace hk := hide hk
    clear hb cS
    have z_ := hp1_0 w1 (.cells (sdrow zst 0 (.slice none 0 0) none) 65)
    go_wp2_with (first | (refine wpList_alloc rfl 65 rfl (sdrow zst 0 (.slice none 0 0) none) zSdA ?_) | (refine wpList_store_row rfl 65 _ _ rfl (w1.heap.size) (sdrow zst 0 (.slice none 0 0) none) rfl rfl 65 _ z_ (infoSd zst_ok _ _ _) rfl (sdrow_one zst_ok _ _ rfl _) ?_; refine wpList_stay ?_) | fail)
    unfold WpStay
    try simp only [Act.put, List.setIfInBounds_toArray, List.set_cons_succ, List.set_cons_zero]
    have R1 := setRow_heap (w1.alloc (.cells (sdrow zst 0 (.slice none 0 0) none) 65)) w1.heap.size _ (sdrow zst 0 (.slice none 0 0) none) _ _ z_
    have hb_ : Below w1.heap.size w1 ((w1.alloc (.cells (sdrow zst 0 (.slice none 0 0) none) 65)).setRow w1.heap.size (sdrow zst 0 (.slice none 0 0) none)) := below_setRow ((Below.refl _ _).alloc (Nat.le_refl _) _) (Nat.le_refl _) _
    have sz_g2 := hb_.size
    replace hw := Below.after hw hb_
    clear hb_ z_
    generalize ((w1.alloc (.cells (sdrow zst 0 (.slice none 0 0) none) 65)).setRow w1.heap.size (sdrow zst 0 (.slice none 0 0) none)) = w2 at *
    generalize w1.heap.size = g2 at *
    go_wp2_with (fail)
    go_ret2
    exact .inl ⟨E, hne.out, hk.out, rfl, hw⟩
  · replace hw := Below.after hw hb
    replace hk := hide hk
    have hs2 : Stt.ok { s with sp := .slice none 0 0 } := hs.put rfl
    have hv1 : v.oneCell' = true := by
      obtain ⟨ao_, cap_, rfl⟩ := slen_own hS.own
      rfl
    have lows := fun k hk => (hS.low k hk)
    have sw1 := hw.size
    clear hb cS
    have z_ := hp1_0 w1 (.cells (sdrow zst 0 (.slice none 0 0) none) 65)
    go_wp2_with (first | (refine wpList_alloc rfl 65 rfl (sdrow zst 0 (.slice none 0 0) none) zSdA ?_) | (refine wpList_store_row rfl 65 _ _ rfl (w1.heap.size) (sdrow { s with sp := .slice none 0 0 } s.cs v (some b)) rfl rfl 65 _ z_ (infoSd hs2 _ _ _) (by rw [sdrow_size zst_ok, sdrow_size hs2]) (sdrow_one hs2 _ _ hv1 _) ?_; refine wpList_stay ?_) | fail)
    unfold WpStay
    try simp only [Act.put, List.setIfInBounds_toArray, List.set_cons_succ, List.set_cons_zero]
    have R1 := setRow_heap (w1.alloc (.cells (sdrow zst 0 (.slice none 0 0) none) 65)) w1.heap.size _ (sdrow { s with sp := .slice none 0 0 } s.cs v (some b)) _ _ z_
    have hb_ : Below w1.heap.size w1 ((w1.alloc (.cells (sdrow zst 0 (.slice none 0 0) none) 65)).setRow w1.heap.size (sdrow { s with sp := .slice none 0 0 } s.cs v (some b))) := below_setRow ((Below.refl _ _).alloc (Nat.le_refl _) _) (Nat.le_refl _) _
    have sz_g2 := hb_.size
    replace hS := hS.keep hb_
    replace hw := Below.after hw hb_
    clear hb_ z_
    generalize ((w1.alloc (.cells (sdrow zst 0 (.slice none 0 0) none) 65)).setRow w1.heap.size (sdrow { s with sp := .slice none 0 0 } s.cs v (some b))) = w2 at *
    generalize w1.heap.size = g2 at *
    have lr := lt_of_row R1
    have R2 := hp1_0 w2 (.cells (sdrow { s with sp := .slice none 0 0 } s.cs v (some b)) 67)
    have hb : Below w2.heap.size w2 (w2.alloc (.cells (sdrow { s with sp := .slice none 0 0 } s.cs v (some b)) 67)) := (Below.refl _ _).alloc (Nat.le_refl _) _
    replace hS := hS.keep hb
    replace hw := Below.after hw hb
    clear hb
    go_wp2_with (first | (refine wpList_load_want rfl 65 _ rfl (g2) rfl 65 (sdrow { s with sp := .slice none 0 0 } s.cs v (some b)) (0, 0) _ R1 Tryd.underlying65 rfl (infoSd hs2 _ _ _) ?_) | (refine wpList_build_as rfl 67 _ rfl [(0, .agg (sdrow { s with sp := .slice none 0 0 } s.cs v (some b)))] rfl (sdrow { s with sp := .slice none 0 0 } s.cs v (some b)) (builtRt hs2 _ _ _) ?_) | (refine wpList_box rfl 67 _ rfl _ rfl (bRtA _) ?_) | fail)
    go_ret2
    exact .inr ⟨w2.heap.size, b, v, hk.out, rfl, ⟨R2, own_down hS.own (by omega), hS.map, hS.ok, hS.nod, hS.most0, hS.len, by omega, by have := hS.bb; omega, (fun e => by have := (lows _ (.inr (.inr e))).2; omega), hs2⟩, hw⟩

end Go.Proofs.YtjofbnilhkmpeaaDoor
