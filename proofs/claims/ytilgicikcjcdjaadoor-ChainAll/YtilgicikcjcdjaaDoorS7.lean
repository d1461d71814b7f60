import Derived.Test.YtilgicikcjcdjaaDoorProg
import Derived.WalkKit
import Derived.WalkSpells
import Derived.WalkLawsBesides
import Derived.Lib.QuietBelow
import Derived.BigQuiet
import Derived.OrdersHeld
import Derived.Laws.MakeOwn
import Derived.RangeFuncBox
import Derived.Deep.Cut
import Derived.Deep.CutRange
import Derived.Deep.CutBlock
import Derived.RangeFuncNested
import Derived.RangeFuncBound
import Derived.RangeFuncCalls
import Derived.RangeFuncLeaves
import Derived.Shelf.Abstract
import Derived.Shelf.RegionOpen
import Derived.OwnWalkIn
import Derived.TacticsInMore
import Derived.LoopNIn
import Derived.LoopIn
import Derived.OwnWalk
import Derived.Deep.RegionHeld3
import Derived.Test.YtilgicikcjcdjaaDoorS0
import Derived.Test.YtilgicikcjcdjaaDoorS6
import Derived.ProofKit
import Derived.OpenShut
import Derived.ChangeSlices
import Derived.ChangeArms
import Derived.SizedLaws
import Derived.Deep.Slices
namespace Go.Proofs.YtilgicikcjcdjaaDoor
set_option maxRecDepth 100000
open Go Go.RowKit Go.Sort
attribute [local go_sem] setCell_drewN alloc_drewN

attribute [local go_sem] Oper.semAt_some
theorem wpList_load_rng {P : Program} {ops : Array Oper} {rest : List Oper} {o : Oper} {a : Act} {w : World} {Q : Exit → Act → World → Prop} (hw : Region.wanted o (yielded ops a.tmps) = true) (ty : TypeId) (x : Operand) (ho : o.op = .load ty x)
    (g off : Nat) (hx : a.eval x = .pointer (some ⟨g, off, none⟩)) (cs : List Value) (d : TypeDesc) (hr : w.rangeAt g off cs) (hu : P.underlying ty = some d) (hd : d.isRow = true) (hi : (P.info? ty).map (·.size) = some cs.length)
    (h : wpList P ops Q rest (a.put o.dst (.agg cs.toArray)) w) : wpList P ops Q (o :: rest) a w :=
  BigFrame.wpList_want hw fun _ hK => wp_load_mid ty x ho g off hx cs d hr hu hd hi (hK _ _ h)
/-- The acts, as they lie. -/
def Acl (W : World) (v : Value) (n : Nat) : Prop := ∃ ao cap, v = .slice ao n cap ∧ n ≤ 9223372036854775807 ∧ ∀ i, i < n → ∃ b off, ao = some ⟨b, off, none⟩ ∧ b < W.heap.size ∧ ∃ (K O : Int) (key : List Int) (N Mo : Int), key.length = 32 ∧ (∀ z ∈ key, 0 ≤ z ∧ z < 256) ∧ (0 ≤ N ∧ N ≤ 4294967295) ∧ (-9223372036854775808 ≤ Mo ∧ Mo ≤ 9223372036854775807) ∧ W.rangeAt b (off + i * 36) (acr K O key N Mo).toList
theorem run_store_ptr {w : World} {A : Addr} {old : Value} (g : Nat) (c : w.cell? A = some old) (f : w.frozen? A = false) : (storeVar 23 A (.pointer (some ⟨g, 0, none⟩))).run Tryd.prog w = .ok () (w.setCell A (.pointer (some ⟨g, 0, none⟩))) := by
  simp [storeVar, c, f, go_sem]
theorem wp_store_one {o : Oper} {a : Act} {w : World} {K : Act → World → Prop} {Q : Exit → Act → World → Prop} (ty : TypeId) (x y : Operand) (ho : o.op = .store ty x y) (b off : Nat) (hx : a.eval x = .pointer (some ⟨b, off, none⟩)) (v : Value) (hy : a.eval y = v)
    (hr : (storeVar ty ⟨b, off, none⟩ v).run Tryd.prog w = .ok () (w.setCell ⟨b, off, none⟩ v)) (h : K (a.put o.dst undef) (w.setCell ⟨b, off, none⟩ v)) : o.wp Tryd.prog a w K Q := by
  unfold Oper.wp execOp
  simp only [ho, hx, hy, Instr.storeAt, Instr.sureAddr, Sem.run_bind, Sem.run_pure, Result.andThen_ok, hr]
  exact h
theorem Chs.rng {W : World} {gc gd : Nat} {p : Nat → Nat} {k k2 : Nat → List Int} {n n2 : Nat → Int} (h : Chs W gc gd p k n k2 n2) {j : Nat} (hj : j < 2) : W.rangeAt gd (j * 33) (chc (k2 j) (n2 j)).toList := by
  intro i v hv
  rw [cell_of_row _ _ _ _ _ _ h.hd]
  have e := congrArg (fun a : Array Value => a[i]?) (drow_part h.kl2 n2 hj)
  rw [Array.getElem?_toList] at hv
  have hi : i < (chc (k2 j) (n2 j)).size := (Array.getElem?_eq_some_iff.1 hv).1
  have hz := drow_size h.kl2 n2
  have hc := chc_size _ (h.kl2 j hj) (n2 j)
  simp only [hv] at e
  rw [← e, Array.getElem?_extract]
  simp
  omega
theorem both_next (key : List Int) (hkl : key.length = 32) (hkz : ∀ z ∈ key, 0 ≤ z ∧ z < 256) (n : Int) (hn : 0 ≤ n ∧ n ≤ 4294967295) : ∃ (X k' : List Int) (n' cd : Int), X.length = 32 ∧ k'.length = 32 ∧ (∀ z ∈ k', 0 ≤ z ∧ z < 256) ∧ (0 ≤ n' ∧ n' ≤ 4294967295) ∧
    (∀ (w : World) (g : Nat), Sta w → Kon w → w.heap[g]? = some (.cells (chc key n) 48 (0, 0)) → Calls Tryd.prog 9 #[.pointer (some ⟨g, 0, none⟩)] w fun e w' => e = .returned (.tuple #[.agg (irow .u8 X), .int .i64 cd]) ∧ w'.heap[g]? = some (.cells (chc k' n') 48 (0, 0)) ∧ But g w w') ∧
    (∀ w : World, Calls Tryd.prog 10 #[.agg (chc key n)] w fun e w' => e = .returned (.tuple #[.agg (chc k' n'), .agg (irow .u8 X), .int .i64 cd]) ∧ Below w.heap.size w w') := by
  by_cases h : n = 4294967295
  · subst h
    exact ⟨zr 32, key, 4294967295, 110, zr_len 32, hkl, hkz, hn, fun w g _ _ r => (a_Next_end key hkl w g r).mono fun _ _ ⟨h1, h2⟩ => ⟨h1, keep h2 r, But.of h2⟩, fun w => r_Next_end key hkl w⟩
  · exact ⟨hm key [1], hm key [2], n + 1, 0, hm_len _ _, hm_len _ _, hm_bd _ _, ⟨by omega, by omega⟩, fun w g hS hK r => a_Next key hkl hkz n hn.1 (by omega) w hS hK g r, fun w => r_Next key hkl hkz n hn.1 (by omega) w⟩
theorem both_skip (key : List Int) (hkl : key.length = 32) (hkz : ∀ z ∈ key, 0 ≤ z ∧ z < 256) (n : Int) (hn : 0 ≤ n ∧ n ≤ 4294967295) (t : Int) (ht : 0 ≤ t ∧ t ≤ 4294967295) (most : Int) (hmo : -9223372036854775808 ≤ most ∧ most ≤ 9223372036854775807) (hb : bnd 1 t most n = true) : ∃ (k' : List Int) (n' : Int), k'.length = 32 ∧ (∀ z ∈ k', 0 ≤ z ∧ z < 256) ∧ (0 ≤ n' ∧ n' ≤ 4294967295) ∧
    (∀ (w : World) (c : Nat), 1 < c → Sta w → Kon w → w.heap[c]? = some (.cells (chc key n) 48 (0, 0)) → Calls Tryd.prog 11 #[.pointer (some ⟨c, 0, none⟩), .agg (chc key n), .int .u32 t, .int .i64 most] w fun e w' => e = .returned (.tuple #[.agg (chc k' n'), .bool true]) ∧ w'.heap[c]? = some (.cells (chc k' n') 48 (0, 0)) ∧ But c w w') := by
  by_cases h1 : t < n
  · refine ⟨key, n, hkl, hkz, hn, fun w c hc1 hS hK r => ?_⟩
    refine skipped_aux key key hkl hkl n n t most 1 [] (fun k hk => absurd hk (by simp)) (by simp) w c (lt_of_row r) (fun V hV => ?_) (fun V => ?_)
    · exact (a_Skip_arg key hkl n t most hn ht h1 V c (keep hV r)).mono fun _ _ ⟨e, hb⟩ => ⟨_, e, own_nilK _ _, keep hb (keep hV r), But.of hb⟩
    · exact (r_Skip_arg key hkl n t most hn ht hmo h1 V).mono fun _ _ ⟨e, hb⟩ => ⟨_, e, own_nilK _ _, hb⟩
  by_cases h2 : most < t - n
  · refine ⟨key, n, hkl, hkz, hn, fun w c hc1 hS hK r => ?_⟩
    refine skipped_aux key key hkl hkl n n t most 133 [] (fun k hk => absurd hk (by simp)) (by simp) w c (lt_of_row r) (fun V hV => ?_) (fun V => ?_)
    · exact (a_Skip_skip key hkl n t most hn ht (by omega) h2 V c (keep hV r)).mono fun _ _ ⟨e, hb⟩ => ⟨_, e, own_nilK _ _, keep hb (keep hV r), But.of hb⟩
    · by_cases h3 : most < 0
      · exact (r_Skip_neg key hkl n t most hn ht hmo (by omega) h3 V).mono fun _ _ ⟨e, hb⟩ => ⟨_, e, own_nilK _ _, hb⟩
      · exact (r_Skip_most key hkl n t most hn ht hmo (by omega) (by omega) h2 V).mono fun _ _ ⟨e, hb⟩ => ⟨_, e, own_nilK _ _, hb⟩
  have h5 : t - n ≤ 5000 := by
    have e1 : decide (t < n) = false := by simp; omega
    have e2 : decide (most < t - n) = false := by simp; omega
    simp only [bnd, e1, e2, if_true, Bool.false_or, decide_eq_true_eq] at hb
    exact hb
  obtain ⟨m, rfl⟩ : ∃ m : Nat, t = n + (m : Int) := ⟨(t - n).toNat, by omega⟩
  refine ⟨kat key m, n + (m : Int), kat_len hkl m, kat_bd hkz m, ht, fun w c hc1 hS hK r => ?_⟩
  refine skipped_aux key (kat key m) hkl (kat_len hkl m) n (n + (m : Int)) (n + (m : Int)) most 0 (msgs key m) (msgs_all key m) (by rw [msgs_len]; omega) w c (lt_of_row r) (fun V hV => ?_) (fun V => ?_)
  · exact a_Skip key hkl hkz n hn.1 m (by omega) (by omega) most (by omega) V (hS.below hV) (hK.below hV) c hc1 (keep hV r)
  · exact r_Skip key hkl hkz n hn.1 m (by omega) (by omega) most (by omega) (by omega) V
set_option maxRecDepth 100000 in
set_option maxHeartbeats 4000000 in
theorem all_chains (np : Nat) (w : World) (v : Value) (hS : Sta w) (hK : Kon w) (hP : Acl w v np) : Calls Tryd.prog 3 #[v] w fun e w' => e = .returned (.bool true) ∧ Below w.heap.size w w' := by
  obtain ⟨pao, pcap, rfl, hpl, hpc⟩ := hP
  go_enter Tryd.func3, Tryd.ntmps3
  go_wp2_with (fail)
  have hI := Ini.zero (hp2_0 w (.cells #[.pointer none, .pointer none] 24) (.cells Tryd.zeroCells30 30)) (hp2_1 w (.cells #[.pointer none, .pointer none] 24) (.cells Tryd.zeroCells30 30)) (by omega) (fun _ => 0)
  have hw : Below w.heap.size w ((w.alloc (.cells #[.pointer none, .pointer none] 24)).alloc (.cells Tryd.zeroCells30 30)) := ((Below.refl _ _).alloc (Nat.le_refl _) _).alloc (by simp) _
  have hs : w.heap.size + 2 ≤ ((w.alloc (.cells #[.pointer none, .pointer none] 24)).alloc (.cells Tryd.zeroCells30 30)).heap.size := by simp
  generalize ((w.alloc (.cells #[.pointer none, .pointer none] 24)).alloc (.cells Tryd.zeroCells30 30)) = w0 at *
  try simp only [Act.put, size_alloc1, List.setIfInBounds_toArray, List.set_cons_succ, List.set_cons_zero]
  go_loopw [5] (fun i wr => ∃ (m : Nat) (p : Nat → Nat), m ≤ 2 ∧ i = .int .i64 m ∧ Ini wr m w.heap.size (w.heap.size + 1) p ∧ Below w.heap.size w wr ∧ w.heap.size + 2 ≤ wr.heap.size ∧ (∀ i, i < m → p i < wr.heap.size)) (fun i _ => 2 - (intOf i).toNat)
  case atStart => exact ⟨0, _, by omega, rfl, hI, hw, hs, fun i h => by omega⟩
  case round =>
    clear hI hw hs
    obtain ⟨m, p, hm, rfl, hI, hw, hs, hps⟩ := hrel
    by_cases hlt : m < 2
    · have hd : decide ((m : Int) < 2) = true := by simp; omega
      have hu8 : IntKind.u8.wrap (m : Int) = (m : Int) := by rcases two hlt with rfl | rfl <;> rfl
      have hu32 : IntKind.u32.wrap (m : Int) = (m : Int) := by rcases two hlt with rfl | rfl <;> rfl
      have hkb := kint m hlt
      have hcb := cint m hlt
      have bt1 : ((m : Int) < 0) = False := by simp
      have bt2 : ((m : Int) < 2) = True := by simp; omega
      go_wp2_with (first | (refine wpList_build_as rfl 26 _ rfl [(0, .int .u8 (m : Int))] rfl (irow .u8 ((m : Int) :: zr 31)) hkb ?_) | fail)
      refine (a_New ((m : Int) :: zr 31) (by simp [zr]) (m : Int) _).mono ?_
      rintro e_ v1 ⟨g, rfl, hg, rg, hb⟩
      replace hI := hI.keep hb
      replace hw := Below.after hw hb
      have hs1 := hb.size
      have hgl := lt_of_row rg
      clear hb
      have hcm : v1.cell? ⟨w.heap.size, m, none⟩ = some (pv m p m) := by
        rw [cell_of_row _ _ _ _ _ _ hI.hc]
        rcases two hlt with rfl | rfl <;> rfl
      have hpm : pv m p m = .pointer none := by simp [pv]
      rw [hpm] at hcm
      have hfz : v1.frozen? ⟨w.heap.size, m, none⟩ = false := by simp [World.frozen?, hI.hc]
      clear hpm
      go_upto_region 7 with (fail)
      have hth : (v1.setCell ⟨w.heap.size, m, none⟩ (.pointer (some ⟨g, 0, none⟩))).there (w.heap.size + 1) (m * 33) (chc ((m : Int) :: zr 31) (m : Int)).size := there_row ((heap_setCell_other v1 _ (w.heap.size + 1) _ (by show w.heap.size + 1 ≠ w.heap.size; omega)).trans hI.hd) (by rw [drow_size (fun i _ => ik_len m i), chc_size _ (by simp [zr])]; omega)
      have hinf := infoR ((m : Int) :: zr 31) (by simp [zr]) (m : Int)
      have hI2 := hI.next hlt rg (by omega) (fun i hi => by have := hps i hi; omega)
      have hw2 := below_setCells5 (n := w.heap.size) (g := w.heap.size + 1) (by omega) (chc ((m : Int) :: zr 31) (m : Int)).toList (m * 33) _ (hw.setCell (p := ⟨w.heap.size, m, none⟩) (Nat.le_refl _) (.pointer (some ⟨g, 0, none⟩)))
      have hs2 : v1.heap.size ≤ ((v1.setCell ⟨w.heap.size, m, none⟩ (.pointer (some ⟨g, 0, none⟩))).setCells (w.heap.size + 1) (m * 33) (chc ((m : Int) :: zr 31) (m : Int)).toList).heap.size := (below_setCells5 (n := 0) (g := w.heap.size + 1) (by omega) (chc ((m : Int) :: zr 31) (m : Int)).toList (m * 33) _ ((Below.refl 0 v1).setCell (p := ⟨w.heap.size, m, none⟩) (Nat.zero_le _) (.pointer (some ⟨g, 0, none⟩)))).size
      generalize v1.setCell ⟨w.heap.size, m, none⟩ (.pointer (some ⟨g, 0, none⟩)) = v2 at *
      clear hI hw hcm hfz
      go_wp2_with (first | (refine wpList_build_as rfl 26 _ rfl [(0, .int .u8 (m : Int))] rfl (irow .u8 ((m : Int) :: zr 31)) hkb ?_) | (refine wpList_build_as rfl 29 _ rfl [(0, .agg (irow .u8 ((m : Int) :: zr 31))), (1, .int .u32 (m : Int))] rfl (chc ((m : Int) :: zr 31) (m : Int)) hcb ?_) | (refine wpList_store_mid rfl 29 _ _ rfl (w.heap.size + 1) (m * 33) (chc ((m : Int) :: zr 31) (m : Int)) rfl rfl hth hinf (chc_one _ _) ?_; refine wpList_stay ?_) | fail)
      unfold WpStay
      generalize v2.setCells (w.heap.size + 1) (m * 33) (chc ((m : Int) :: zr 31) (m : Int)).toList = v3 at *
      clear hth hinf hkb hcb
      have hps2 : ∀ i, i < m + 1 → upd p m g i < v3.heap.size := fun i hi => by
        by_cases e : i = m
        · subst e; rw [upd_same]; omega
        · rw [upd_other _ _ e]; have := hps i (by omega); omega
      have rg3 := hI2.hp m (by omega)
      have cc3 := hI2.cc (j := m) (by omega) hlt
      have cn3 := hI2.cn (j := m) (by omega) hlt
      have ck3 := hI2.ck (j := m) (by omega) hlt
      have rd3 := hI2.hd
      rw [upd_same] at rg3 cc3
      have hkl : ((m : Int) :: zr 31).length = 32 := by simp [zr]
      generalize (m : Int) :: zr 31 = ky at *
      generalize drow (ik (m + 1)) (iN (m + 1)) = DR at *
      have hek := eqKs _ hkl
      have HD := keepr rd3
      clear rg
      go_upto_region 8 with (fail)
      have kc : ∀ p : Regrown, (grow (redrawn v3 p.d) p.os).cell? ⟨w.heap.size, m, none⟩ = some (.pointer (some ⟨g, 0, none⟩)) := fun p => cell_regrown (cc3) p.d p.os
      have kn : ∀ p : Regrown, (grow (redrawn v3 p.d) p.os).cell? ⟨w.heap.size + 1, m * 33 + 32, none⟩ = some (.int .u32 (m : Int)) := fun p => cell_regrown (cn3) p.d p.os
      refine wp_region_quiet_below (by kernel_rfl) (by kernel_rfl) ?_
      go_big_quiet_step (fail)
      go_big_quiet_step (fail)
      go_big_quiet_step (fail)
      go_big_quiet_step (fail)
      go_big_quiet_step (fail)
      go_big_quiet_step (fail)
      go_big_quiet_step (fail)
      go_big_quiet_step (fail)
      go_big_quiet_step (exact Calls.regrown_of (a_Key ky hkl (m : Int) _ g (keep (below_regrown _ _ _) rg3)))
      go_big_quiet_step (fail)
      go_big_quiet_step (fail)
      go_big_quiet_step (fail)
      refine wpQuiet_load_part rfl 26 _ rfl (w.heap.size + 1) (m * 33) rfl 30 DR (0, 0) (irow .u8 ky) _ HD.out ck3 Tryd.underlying26 rfl (infok8 _ hkl) ?_
      simp only [Act.put, List.setIfInBounds_toArray, List.set_cons_succ, List.set_cons_zero]
      go_big_quiet_step (fail)
      go_big_quiet_step (fail)
      go_big_quiet_step (fail)
      go_big_quiet_step (fail)
      go_big_quiet_step (fail)
      go_big_quiet_step (fail)
      go_big_quiet_step (exact Calls.regrown_of (a_N ky hkl (m : Int) _ g (keep (below_regrown _ _ _) rg3)))
      go_big_quiet_step (fail)
      go_big_quiet_step (fail)
      go_big_quiet_step (fail)
      go_big_quiet_step (fail)
      go_big_quiet_step (fail)
      go_big_quiet_step (fail)
      refine wpQuiet_nil ?_
      rintro _ ⟨p, rfl⟩
      have hb := below_regrown v3 p.d p.os
      generalize grow (redrawn v3 p.d) p.os = v4 at *
      clear kc kn
      replace hI2 := hI2.keep hb
      replace hw2 := Below.after hw2 hb
      have hs4 := hb.size
      clear hb
      clear HD
      go_wp2_with (fail)
      exact ⟨⟨m + 1, _, by omega, rfl, hI2, hw2, by omega, fun i hi => by have := hps2 i hi; omega⟩, by simp [intOf]; omega⟩
    · obtain rfl : m = 2 := by omega
      have hd : decide (((2 : Nat) : Int) < 2) = false := by decide
      replace hI := hI.done
      clear hps hm
      generalize ik 2 = ky at *
      generalize iN 2 = nn at *
      go_wp2_with (fail)
      clear hd
      go_loopw [6] (fun i wr => ∃ (k : Nat) (p : Nat → Nat) (ky : Nat → List Int) (nn : Nat → Int), k ≤ np ∧ i = .int .i64 k ∧ Chs wr w.heap.size (w.heap.size + 1) p ky nn ky nn ∧ Below w.heap.size w wr) (fun i _ => np - (intOf i).toNat)
      case atStart => exact ⟨0, _, _, _, by omega, rfl, hI, hw⟩
      case round =>
        clear hI hw hs
        obtain ⟨k, pp, ky, nn, hk, rfl, hC, hw⟩ := hrel
        by_cases hkt : k < np
        · have hd : decide ((k : Int) < (np : Int)) = true := by simp; omega
          obtain ⟨ab, aoff, rfl, hab, K, O, key, N, Mo, hkl, hkz, hN, hMo, hrng⟩ := hpc k hkt
          have hrng' : wr.rangeAt ab (aoff + k * 36) (acr K O key N Mo).toList := fun j v hv => (hw.cell (p := ⟨ab, aoff + k * 36 + j, none⟩) hab).trans (hrng j v hv)
          clear hrng
          have hca : (acr K O key N Mo).toList.toArray = acr K O key N Mo := by simp
          generalize (acr K O key N Mo).toList = cs at *
          have hsz : cs.toArray.size = 36 := by rw [hca]; exact acr_size K O key hkl N Mo
          have hsl : cs.length = 36 := by rw [List.size_toArray] at hsz; exact hsz
          have hinf : (Tryd.prog.info? 35).map (·.size) = some cs.length := by rw [hsl]; kernel_rfl
          have hinf2 : (Tryd.prog.info? 35).map (·.size) = some cs.toArray.size := by rw [hsz]; kernel_rfl
          have hone : cs.toArray.all (·.oneCell') = true := by rw [hca]; exact acr_one K O key N Mo
          have hca2 := hide hca
          have hszH := hide hsz
          clear hca hsl hsz
          go_wp2_with (first | (refine wpList_load_rng rfl 35 _ rfl ab (aoff + k * 36) rfl cs _ hrng' Tryd.underlying35 rfl hinf ?_) | (refine wpList_store_row rfl 35 _ _ rfl (wr.heap.size) cs.toArray rfl rfl 35 #[.int .i64 0, .int .i64 0, .int .u8 0, .int .u8 0, .int .u8 0, .int .u8 0, .int .u8 0, .int .u8 0, .int .u8 0, .int .u8 0, .int .u8 0, .int .u8 0, .int .u8 0, .int .u8 0, .int .u8 0, .int .u8 0, .int .u8 0, .int .u8 0, .int .u8 0, .int .u8 0, .int .u8 0, .int .u8 0, .int .u8 0, .int .u8 0, .int .u8 0, .int .u8 0, .int .u8 0, .int .u8 0, .int .u8 0, .int .u8 0, .int .u8 0, .int .u8 0, .int .u8 0, .int .u8 0, .int .u32 0, .int .i64 0] (hp1_0 wr _) hinf2 (Eq.trans rfl hszH.out.symm) hone ?_; rw [setRow_alloc_new _ _ _ _ _ _ (by simp)]; refine wpList_stay ?_) | fail)
          unfold WpStay
          rw [hca2.out]
          clear hpc hrng' hinf hinf2 hone hszH hca2
          have ro := hp1_0 wr (.cells (acr K O key N Mo) 35)
          have hb : Below wr.heap.size wr (wr.alloc (.cells (acr K O key N Mo) 35)) := (Below.refl _ _).alloc (Nat.le_refl _) _
          have lD := lt_of_row hC.hd
          have lP : ∀ i, i < 2 → pp i < wr.heap.size := fun i hi => lt_of_row (hC.hp i hi)
          replace hC := hC.keep hb
          replace hw := Below.after hw hb
          clear hb
          generalize wr.alloc (.cells (acr K O key N Mo) 35) = v1 at *
          generalize wr.heap.size = gO at *
          have cO : v1.cell? ⟨gO, 1, none⟩ = some (.int .i64 O) := (cell_of_row _ _ 1 _ _ _ ro).trans (acr_1 K O key N Mo)
          go_wp2_with (fail)
          clear cO
          refine ((at2_walk O).at _).mono ?_
          rintro e_ v2 ⟨rfl, hb⟩
          replace ro := keep hb ro
          replace hC := hC.keep hb
          replace hw := Below.after hw hb
          clear hb
          have hj := at2_lt O
          generalize at2 O = j at *
          have bt1 : ((j : Int) < 0) = False := by simp
          have bt2 : ((j : Int) < 2) = True := by simp; omega
          have hkj := hC.kl j hj
          have hzj := hC.kb j hj
          have hnj := hC.nb j hj
          have cn2 := hC.cn hj
          have HO := keepr ro
          go_upto_region 15 with (fail)
          have kn : ∀ p : Regrown, (grow (redrawn v2 p.d) p.os).cell? ⟨w.heap.size + 1, j * 33 + 32, none⟩ = some (.int .u32 (nn j)) := fun p => cell_regrown (cn2) p.d p.os
          refine wp_region_quiet_below (by kernel_rfl) (by kernel_rfl) ?_
          refine wpQuiet_load_part rfl 35 _ rfl (gO) 0 rfl 35 (acr K O key N Mo) (0, 0) (acr K O key N Mo) _ HO.out (all_row _) Tryd.underlying35 rfl (infoA K O key hkl N Mo) ?_
          simp only [Act.put, List.setIfInBounds_toArray, List.set_cons_succ, List.set_cons_zero]
          go_big_quiet_step (fail)
          go_big_quiet_step (fail)
          go_big_quiet_step (fail)
          go_big_quiet_step (fail)
          go_big_quiet_step (exact Calls.regrown_of (l_bounded K O key hkl N Mo (nn j) hN hnj _))
          go_big_quiet_step (fail)
          refine wpQuiet_nil ?_
          rintro _ ⟨p, rfl⟩
          have hb := below_regrown v2 p.d p.os
          generalize grow (redrawn v2 p.d) p.os = v3 at *
          clear kn
          replace ro := keep hb ro
          replace hC := hC.keep hb
          replace hw := Below.after hw hb
          clear hb
          clear cn2 HO
          have c0 : v3.cell? ⟨gO, 0, none⟩ = some (.int .i64 K) := (cell_of_row _ _ 0 _ _ _ ro).trans (acr_0 K O key N Mo)
          by_cases hbn : bnd K N Mo (nn j) = true
          · have hbd : (!bnd K N Mo (nn j)) = false := by rw [hbn]; rfl
            rw [hbn]
            go_upto_block 4 with (fail)
            clear c0
            go_cut [9, 10, 11, 12, 13, 14] from 61 to 210 (fun r _ _ _ _ _ wx => r = .bool true ∧ ∃ (p' : Nat → Nat) (ky' : Nat → List Int) (nn' : Nat → Int), Chs wx w.heap.size (w.heap.size + 1) p' ky' nn' ky' nn' ∧ Below w.heap.size w wx)
            case first =>
              rcases Classical.em (K = 0) with rfl | h0
              · obtain ⟨X, k', n', cd, hXl, hk', hz', hn', cA, cR⟩ := both_next (ky j) hkj hzj (nn j) hnj
                have cc2 := hC.cc hj
                have loj := hC.lo j hj
                go_wp2_with (fail)
                refine (cA _ _ (hS.below hw) (hK.below hw) (hC.hp j hj)).mono ?_
                rintro e_ v4 ⟨rfl, rp, hb⟩
                replace hC := hC.step hj hk' hz' hn' rp hb
                replace hw := But.after hw (by omega) hb
                clear hb rp cA cc2 ro
                have za0 := hp1_0 v4 (.cells (irow .u8 (zr 32)) 26)
                have ya00 := setRow_heap (v4.alloc (.cells (irow .u8 (zr 32)) 26)) (v4.heap.size) _ (irow .u8 X) _ _ za0
                have hbF : Below v4.heap.size v4 ((v4.alloc (.cells (irow .u8 (zr 32)) 26)).setRow (v4.heap.size) (irow .u8 X)) := (below_setRow ((Below.refl _ _).alloc (Nat.le_refl _) _) (show v4.heap.size ≤ v4.heap.size by omega) (irow .u8 X))
                go_wp2_with (first | (refine wpList_alloc rfl 26 rfl (irow .u8 (zr 32)) zkey ?_) | (refine wpList_store_row rfl 26 _ _ rfl (v4.heap.size) (irow .u8 X) rfl rfl 26 _ za0 (infok8 _ hXl) (fit32 _ _ (zr_len 32) hXl) (irow_one _ _) ?_; refine wpList_stay ?_) | fail)
                unfold WpStay
                replace hC := hC.keep hbF
                replace hw := Below.after hw hbF
                have hs5 := hbF.size
                have lX := lt_of_row ya00
                have lgd := lt_of_row hC.hd
                clear hbF
                generalize ((v4.alloc (.cells (irow .u8 (zr 32)) 26)).setRow (v4.heap.size) (irow .u8 X)) = v5 at *
                generalize v4.heap.size = gX at *
                have hDp := drow_part hC.kl2 nn hj
                have rd5 := hC.hd
                go_wp2_with (first | (refine wpList_load_part rfl 29 _ rfl (w.heap.size + 1) (j * 33) rfl 30 (drow ky nn) (0, 0) (chc (ky j) (nn j)) _ rd5 hDp Tryd.underlying29 rfl (infoR _ hkj _) ?_) | fail)
                refine (cR _).mono ?_
                rintro e_ v6 ⟨rfl, hb⟩
                have rX := keep hb ya00
                have hs6 := hb.size
                replace hC := hC.keep hb
                replace hw := Below.after hw hb
                clear hb cR rd5 hDp
                have zb0 := hp2_0 v6 (.cells (chc (zr 32) 0) 29) (.cells (irow .u8 (zr 32)) 26)
                have zb1 := hp2_1 v6 (.cells (chc (zr 32) 0) 29) (.cells (irow .u8 (zr 32)) 26)
                have yb00 := setRow_heap ((v6.alloc (.cells (chc (zr 32) 0) 29)).alloc (.cells (irow .u8 (zr 32)) 26)) (v6.heap.size) _ (chc k' n') _ _ zb0
                have yb01 := (setRow_other ((v6.alloc (.cells (chc (zr 32) 0) 29)).alloc (.cells (irow .u8 (zr 32)) 26)) (v6.heap.size) (v6.heap.size + 1) (chc k' n') (by omega)).trans zb1
                have yb10 := (setRow_other (((v6.alloc (.cells (chc (zr 32) 0) 29)).alloc (.cells (irow .u8 (zr 32)) 26)).setRow (v6.heap.size) (chc k' n')) (v6.heap.size + 1) (v6.heap.size) (irow .u8 X) (by omega)).trans yb00
                have yb11 := setRow_heap (((v6.alloc (.cells (chc (zr 32) 0) 29)).alloc (.cells (irow .u8 (zr 32)) 26)).setRow (v6.heap.size) (chc k' n')) (v6.heap.size + 1) _ (irow .u8 X) _ _ yb01
                have hbF : Below v6.heap.size v6 ((((v6.alloc (.cells (chc (zr 32) 0) 29)).alloc (.cells (irow .u8 (zr 32)) 26)).setRow (v6.heap.size) (chc k' n')).setRow (v6.heap.size + 1) (irow .u8 X)) := (below_setRow (below_setRow (((Below.refl _ _).alloc (Nat.le_refl _) _).alloc (by simp) _) (show v6.heap.size ≤ v6.heap.size by omega) (chc k' n')) (show v6.heap.size ≤ v6.heap.size + 1 by omega) (irow .u8 X))
                go_wp2_with (first | (refine wpList_alloc rfl 26 rfl (irow .u8 (zr 32)) zkey ?_) | (refine wpList_alloc rfl 29 rfl (chc (zr 32) 0) zchr ?_) | (refine wpList_store_row rfl 29 _ _ rfl (v6.heap.size) (chc k' n') rfl rfl 29 _ zb0 (infoR _ hk' _) (by rw [chc_size _ (zr_len 32), chc_size _ hk']) (chc_one _ _) ?_; refine wpList_stay ?_) | fail)
                unfold WpStay
                go_wp2_with (first | (refine wpList_store_row rfl 26 _ _ rfl (v6.heap.size + 1) (irow .u8 X) rfl rfl 26 _ yb01 (infok8 _ hXl) (fit32 _ _ (zr_len 32) hXl) (irow_one _ _) ?_; refine wpList_stay ?_) | fail)
                unfold WpStay
                replace hC := hC.keep hbF
                replace hw := Below.after hw hbF
                replace rX := keep hbF rX
                clear hbF
                have rF := yb10
                have rM := yb11
                generalize ((((v6.alloc (.cells (chc (zr 32) 0) 29)).alloc (.cells (irow .u8 (zr 32)) 26)).setRow (v6.heap.size) (chc k' n')).setRow (v6.heap.size + 1) (irow .u8 X)) = v7 at *
                clear hs6
                generalize v6.heap.size + 1 = gM at *
                generalize v6.heap.size = gF at *
                clear za0 ya00 zb1 yb11 zb0 yb00 yb10 yb01 hs5 lX lgd
                have hek := eqKs X hXl
                go_upto_region 22 with (fail)
                go_step
                refine wpList_load_want rfl 26 _ rfl (gX) rfl 26 (irow .u8 X) (0, 0) _ rX Tryd.underlying26 rfl (infok8 _ hXl) ?_
                simp only [Act.put, List.setIfInBounds_toArray, List.set_cons_succ, List.set_cons_zero]
                refine wpList_load_want rfl 26 _ rfl (gM) rfl 26 (irow .u8 X) (0, 0) _ rM Tryd.underlying26 rfl (infok8 _ hXl) ?_
                simp only [Act.put, List.setIfInBounds_toArray, List.set_cons_succ, List.set_cons_zero]
                go_upto_region 23 with (fail)
                have hth := hC.there hj hk' n'
                have hinf := infoR k' hk' n'
                go_wp2_with (first | (refine wpList_load_want rfl 29 _ rfl (gF) rfl 29 (chc k' n') (0, 0) _ rF Tryd.underlying29 rfl hinf ?_) | (refine wpList_store_mid rfl 29 _ _ rfl (w.heap.size + 1) (j * 33) (chc k' n') rfl rfl hth hinf (chc_one _ _) ?_; refine wpList_stay ?_) | fail)
                unfold WpStay
                replace hC := hC.setD hj hk' n'
                replace hw := below_setCells5 (n := w.heap.size) (g := w.heap.size + 1) (by omega) (chc k' n').toList (j * 33) _ hw
                generalize v7.setCells (w.heap.size + 1) (j * 33) (chc k' n').toList = v8 at *
                clear rX rF rM hth hinf
                go_wp2_with (fail)
                go_meet
                case rel => exact ⟨rfl, _, _, _, hC, hw⟩
              rcases Classical.em (K = 1) with rfl | h1
              · obtain ⟨k', n', hk', hz', hn', cS⟩ := both_skip (ky j) hkj hzj (nn j) hnj N hN Mo hMo hbn
                have loj := hC.lo j hj
                have lpj := lP j hj
                go_upto_region 25 with (fail)
                have hbd : Below v3.heap.size v3 v3.drew := below_drN (Below.refl _ _) 1
                replace ro := keep hbd ro
                replace hC := hC.keep hbd
                replace hw := Below.after hw hbd
                clear hbd
                refine wp_region_noPanic ?_
                refine wp_region_held (S := fun W => W.heap[w.heap.size]? = some (.cells (crow pp) 24 (0, 0)) ∧ W.heap[gO]? = some (.cells (acr 1 O key N Mo) 35 (0, 0))) (by kernel_rfl) ?_
                change wpAnyH _ _ _ _ _ _ _ _ (World.drew _)
                generalize v3.drew = vd25 at *
                refine wpAnyH_take (i := 0) (v := ?v10) rfl (by kernel_rfl) (by kernel_rfl) (by kernel_rfl) (fun _ _ _ h => h) (Or.inl ⟨by rfl, ?y10⟩) (⟨hC.hc, ro⟩) ?r10
                case y10 =>
                  intro w_ hS_
                  go_simp
                  try with_reducible rfl
                simp only [Act.put, List.getElem_toArray, List.getElem_cons_zero, List.setIfInBounds_toArray, List.set_cons_succ, List.set_cons_zero]
                refine wpAnyH_take (i := 1) (v := ?v11) rfl (by kernel_rfl) (by kernel_rfl) (by kernel_rfl) (fun _ _ _ h => h) (Or.inl ⟨by rfl, ?y11⟩) (⟨hC.hc, ro⟩) ?r11
                case y11 =>
                  intro w_ hS_
                  go_simp
                  try with_reducible rfl
                simp only [Act.put, List.getElem_toArray, List.getElem_cons_succ, List.getElem_cons_zero, List.setIfInBounds_toArray, List.set_cons_succ, List.set_cons_zero]
                refine wpAnyH_take (i := 2) (v := ?v12) rfl (by kernel_rfl) (by kernel_rfl) (by kernel_rfl) (fun _ _ _ h => h) (Or.inl ⟨by rfl, ?y12⟩) (⟨hC.hc, ro⟩) ?r12
                case y12 =>
                  intro w_ hS_
                  go_simp
                  try with_reducible rfl
                simp only [Act.put, List.getElem_toArray, List.getElem_cons_succ, List.getElem_cons_zero, List.setIfInBounds_toArray, List.set_cons_succ, List.set_cons_zero]
                refine wpAnyH_take (i := 3) (v := .pointer (some ⟨pp j, 0, none⟩)) rfl (by kernel_rfl) (by kernel_rfl) (by kernel_rfl) (fun _ _ _ h => h) (Or.inl ⟨by rfl, ?y13⟩) (⟨hC.hc, ro⟩) ?r13
                case y13 =>
                  intro w_ hS_
                  have c_ := (cell_of_row _ _ j _ _ _ hS_.1).trans (crow_get pp hj)
                  go_simp
                  try with_reducible rfl
                simp only [Act.put, List.getElem_toArray, List.getElem_cons_succ, List.getElem_cons_zero, List.setIfInBounds_toArray, List.set_cons_succ, List.set_cons_zero]
                refine wpAnyH_take (i := 4) (v := ?v14) rfl (by kernel_rfl) (by kernel_rfl) (by kernel_rfl) (fun _ _ _ h => h) (Or.inl ⟨by rfl, ?y14⟩) (⟨hC.hc, ro⟩) ?r14
                case y14 =>
                  intro w_ hS_
                  go_simp
                  try with_reducible rfl
                simp only [Act.put, List.getElem_toArray, List.getElem_cons_succ, List.getElem_cons_zero, List.setIfInBounds_toArray, List.set_cons_succ, List.set_cons_zero]
                refine wpAnyH_take (i := 5) (v := ?v15) rfl (by kernel_rfl) (by kernel_rfl) (by kernel_rfl) (fun _ _ _ h => h) (Or.inl ⟨by rfl, ?y15⟩) (⟨hC.hc, ro⟩) ?r15
                case y15 =>
                  intro w_ hS_
                  go_simp
                  try with_reducible rfl
                simp only [Act.put, List.getElem_toArray, List.getElem_cons_succ, List.getElem_cons_zero, List.setIfInBounds_toArray, List.set_cons_succ, List.set_cons_zero]
                refine wpAnyH_take (i := 7) (v := ?v16) rfl (by kernel_rfl) (by kernel_rfl) (by kernel_rfl) (fun _ _ _ h => h) (Or.inl ⟨by rfl, ?y16⟩) (⟨hC.hc, ro⟩) ?r16
                case y16 =>
                  intro w_ hS_
                  go_simp
                  try with_reducible rfl
                simp only [Act.put, List.getElem_toArray, List.getElem_cons_succ, List.getElem_cons_zero, List.setIfInBounds_toArray, List.set_cons_succ, List.set_cons_zero]
                refine wpAnyH_take (i := 8) (v := .int .u32 N) rfl (by kernel_rfl) (by kernel_rfl) (by kernel_rfl) (fun _ _ _ h => h) (Or.inl ⟨by rfl, ?y17⟩) (⟨hC.hc, ro⟩) ?r17
                case y17 =>
                  intro w_ hS_
                  have c_ := (cell_of_row _ _ 34 _ _ _ hS_.2).trans (acr_n 1 O key hkl N Mo)
                  go_simp
                  try with_reducible rfl
                simp only [Act.put, List.getElem_toArray, List.getElem_cons_succ, List.getElem_cons_zero, List.setIfInBounds_toArray, List.set_cons_succ, List.set_cons_zero]
                refine wpAnyH_take (i := 9) (v := ?v18) rfl (by kernel_rfl) (by kernel_rfl) (by kernel_rfl) (fun _ _ _ h => h) (Or.inl ⟨by rfl, ?y18⟩) (⟨hC.hc, ro⟩) ?r18
                case y18 =>
                  intro w_ hS_
                  go_simp
                  try with_reducible rfl
                simp only [Act.put, List.getElem_toArray, List.getElem_cons_succ, List.getElem_cons_zero, List.setIfInBounds_toArray, List.set_cons_succ, List.set_cons_zero]
                refine wpAnyH_take (i := 10) (v := .int .i64 Mo) rfl (by kernel_rfl) (by kernel_rfl) (by kernel_rfl) (fun _ _ _ h => h) (Or.inl ⟨by rfl, ?y19⟩) (⟨hC.hc, ro⟩) ?r19
                case y19 =>
                  intro w_ hS_
                  have c_ := (cell_of_row _ _ 35 _ _ _ hS_.2).trans (acr_m 1 O key hkl N Mo)
                  go_simp
                  try with_reducible rfl
                simp only [Act.put, List.getElem_toArray, List.getElem_cons_succ, List.getElem_cons_zero, List.setIfInBounds_toArray, List.set_cons_succ, List.set_cons_zero]
                refine wpAnyH_one (k := 6) (fuel := 7) (by kernel_rfl) rfl (by kernel_rfl) (fun K_ hK_ => ?_)
                refine wp_load_mid 29 _ rfl (w.heap.size + 1) (j * 33) rfl _ _ (hC.rng hj) Tryd.underlying29 rfl (infoR _ hkj _) ?_
                rw [Array.toArray_toList]
                refine hK_ _ _ (⟨hC.hc, ro⟩) ?_
                simp only [Act.put, List.getElem_toArray, List.getElem_cons_succ, List.getElem_cons_zero, List.setIfInBounds_toArray, List.set_cons_succ, List.set_cons_zero]
                clear hK_
                refine wpAnyH_one (k := 11) (fuel := 6) (by kernel_rfl) rfl (by kernel_rfl) (fun K_ hK_ => ?_)
                refine wp_call_ex (f := 11) (by kernel_rfl) (ex1 (cS vd25 (pp j) (by omega) (hS.below hw) (hK.below hw) (hC.hp j hj))) (fun v_ q4 hX_ => ?_)
                obtain ⟨rfl, rp, hb_⟩ := hX_
                replace hC := hC.step hj hk' hz' hn' rp hb_
                replace hw := But.after hw (by omega) hb_
                replace ro := hb_.row ro (by omega)
                clear hb_ rp
                refine hK_ _ _ (⟨hC.hc, ro⟩) ?_
                simp only [Act.put, List.getElem_toArray, List.getElem_cons_succ, List.getElem_cons_zero, List.setIfInBounds_toArray, List.set_cons_succ, List.set_cons_zero]
                clear hK_
                refine wpAnyH_take (i := 12) (v := ?v20) rfl (by kernel_rfl) (by kernel_rfl) (by kernel_rfl) (fun _ _ _ h => h) (Or.inl ⟨by rfl, ?y20⟩) (⟨hC.hc, ro⟩) ?r20
                case y20 =>
                  intro w_ hS_
                  go_simp
                  try with_reducible rfl
                simp only [Act.put, List.getElem_toArray, List.getElem_cons_succ, List.getElem_cons_zero, List.setIfInBounds_toArray, List.set_cons_succ, List.set_cons_zero]
                refine wpAnyH_take (i := 13) (v := ?v21) rfl (by kernel_rfl) (by kernel_rfl) (by kernel_rfl) (fun _ _ _ h => h) (Or.inl ⟨by rfl, ?y21⟩) (⟨hC.hc, ro⟩) ?r21
                case y21 =>
                  intro w_ hS_
                  go_simp
                  try with_reducible rfl
                simp only [Act.put, List.getElem_toArray, List.getElem_cons_succ, List.getElem_cons_zero, List.setIfInBounds_toArray, List.set_cons_succ, List.set_cons_zero]
                refine wpAnyH_take (i := 14) (v := ?v22) rfl (by kernel_rfl) (by kernel_rfl) (by kernel_rfl) (fun _ _ _ h => h) (Or.inl ⟨by rfl, ?y22⟩) (⟨hC.hc, ro⟩) ?r22
                case y22 =>
                  intro w_ hS_
                  go_simp
                  try with_reducible rfl
                simp only [Act.put, List.getElem_toArray, List.getElem_cons_succ, List.getElem_cons_zero, List.setIfInBounds_toArray, List.set_cons_succ, List.set_cons_zero]
                refine wpAnyH_take (i := 15) (v := ?v23) rfl (by kernel_rfl) (by kernel_rfl) (by kernel_rfl) (fun _ _ _ h => h) (Or.inl ⟨by rfl, ?y23⟩) (⟨hC.hc, ro⟩) ?r23
                case y23 =>
                  intro w_ hS_
                  go_simp
                  try with_reducible rfl
                simp only [Act.put, List.getElem_toArray, List.getElem_cons_succ, List.getElem_cons_zero, List.setIfInBounds_toArray, List.set_cons_succ, List.set_cons_zero]
                refine wpAnyH_one (k := 16) (fuel := 1) (by kernel_rfl) rfl (by kernel_rfl) (fun K_ hK_ => ?_)
                refine wp_store_mid 29 _ _ rfl (w.heap.size + 1) (j * 33) (chc k' n') rfl rfl (hC.there hj hk' n') (infoR _ hk' _) (chc_one _ _) ?_
                replace hC := hC.setD hj hk' n'
                replace ro := (hp_setCells_else (g := w.heap.size + 1) (k := gO) (by omega) (chc k' n').toList (j * 33) q4).trans ro
                replace hw := below_setCells5 (n := w.heap.size) (g := w.heap.size + 1) (by omega) (chc k' n').toList (j * 33) q4 hw
                refine hK_ _ _ (⟨hC.hc, ro⟩) ?_
                simp only [Act.put]
                clear hK_
                generalize q4.setCells (w.heap.size + 1) (j * 33) (chc k' n').toList = q5 at *
                refine wpAnyH_take (i := 17) (v := ?v24) rfl (by kernel_rfl) (by kernel_rfl) (by kernel_rfl) (fun _ _ _ h => h) (Or.inl ⟨by rfl, ?y24⟩) (⟨hC.hc, ro⟩) ?r24
                case y24 =>
                  intro w_ hS_
                  go_simp
                  try with_reducible rfl
                simp only [Act.put, List.getElem_toArray, List.getElem_cons_succ, List.getElem_cons_zero, List.setIfInBounds_toArray, List.set_cons_succ, List.set_cons_zero]
                refine wpAnyH_done (by kernel_rfl) ?_ _
                refine NoPanic.normal ?_
                try simp only [Act.put]
                go_wp2_with (fail)
                go_meet
                case rel => exact ⟨rfl, _, _, _, hC, hw⟩
              rcases Classical.em (K = 2) with rfl | h2
              · have hM5 : Mo ≤ 100000 := by
                  simp [bnd] at hbn
                  omega
                have cc2 := hC.cc hj
                have hDp := drow_part hC.kl2 nn hj
                have rd2 := hC.hd
                have HD := keepr rd2
                have cM : v3.cell? ⟨gO, 35, none⟩ = some (.int .i64 Mo) := (cell_of_row _ _ 35 _ _ _ ro).trans (acr_m _ O key hkl N Mo)
                have cN : v3.cell? ⟨gO, 34, none⟩ = some (.int .u32 N) := (cell_of_row _ _ 34 _ _ _ ro).trans (acr_n _ O key hkl N Mo)
                clear rd2
                go_upto_region 27 with (fail)
                have kc : ∀ p : Regrown, (grow (redrawn v3 p.d) p.os).cell? ⟨w.heap.size, j, none⟩ = some (.pointer (some ⟨pp j, 0, none⟩)) := fun p => cell_regrown (cc2) p.d p.os
                have km : ∀ p : Regrown, (grow (redrawn v3 p.d) p.os).cell? ⟨gO, 35, none⟩ = some (.int .i64 Mo) := fun p => cell_regrown (cM) p.d p.os
                have kn : ∀ p : Regrown, (grow (redrawn v3 p.d) p.os).cell? ⟨gO, 34, none⟩ = some (.int .u32 N) := fun p => cell_regrown (cN) p.d p.os
                refine wp_region_quiet_below (by kernel_rfl) (by kernel_rfl) ?_
                go_big_quiet_step (fail)
                go_big_quiet_step (fail)
                go_big_quiet_step (fail)
                go_big_quiet_step (fail)
                go_big_quiet_step (fail)
                refine wpQuiet_load_part rfl 29 _ rfl (w.heap.size + 1) (j * 33) rfl 30 (drow ky nn) (0, 0) (chc (ky j) (nn j)) _ HD.out hDp Tryd.underlying29 rfl (infoR _ hkj _) ?_
                simp only [Act.put, List.setIfInBounds_toArray, List.set_cons_succ, List.set_cons_zero]
                go_big_quiet_step (fail)
                go_big_quiet_step (fail)
                go_big_quiet_step (fail)
                go_big_quiet_step (fail)
                go_big_quiet_step (fail)
                go_big_quiet_step (fail)
                go_big_quiet_step (exact Calls.regrown_of (l_ahead (ky j) hkj hzj (nn j) hnj.1 hnj.2 Mo hM5 _ _ (hS.below (Below.after hw (below_regrown _ _ _))) (hK.below (Below.after hw (below_regrown _ _ _))) (pp j) (keep (below_regrown _ _ _) (hC.hp j hj))))
                go_big_quiet_step (fail)
                refine wpQuiet_nil ?_
                rintro _ ⟨p, rfl⟩
                have hb := below_regrown v3 p.d p.os
                generalize grow (redrawn v3 p.d) p.os = v4 at *
                clear kc km kn
                replace hC := hC.keep hb
                replace hw := Below.after hw hb
                clear hb
                clear HD hDp cc2 cM cN
                go_wp2_with (fail)
                go_meet
                case rel => exact ⟨rfl, _, _, _, hC, hw⟩
              rcases Classical.em (K = 3) with rfl | h3
              · have cN : v3.cell? ⟨gO, 34, none⟩ = some (.int .u32 N) := (cell_of_row _ _ 34 _ _ _ ro).trans (acr_n _ O key hkl N Mo)
                go_wp2_with (first | (refine wpList_load_part rfl 26 _ rfl (gO) (2) rfl 35 (acr 3 O key N Mo) (0, 0) (irow .u8 key) _ ro (acr_key 3 O key hkl N Mo) Tryd.underlying26 rfl (infok8 _ hkl) ?_) | fail)
                refine (a_New key hkl N _).mono ?_
                rintro e_ v4 ⟨g, rfl, hg, rg, hb⟩
                have lpp : ∀ i, i < 2 → pp i < v3.heap.size := fun i hi => lt_of_row (hC.hp i hi)
                have lgd := lt_of_row hC.hd
                replace hC := hC.keep hb
                replace ro := keep hb ro
                replace hw := Below.after hw hb
                clear hb cN
                have cc2 := hC.cc hj
                have hfz : v4.frozen? ⟨w.heap.size, j, none⟩ = false := by simp [World.frozen?, hC.hc]
                go_upto_region 30 with (fail)
                replace hC := hC.setC hj hkl hkz hN rg (by omega) (fun i hi => by have := lpp i hi; omega)
                replace ro := (heap_setCell_other v4 ⟨w.heap.size, j, none⟩ gO (.pointer (some ⟨g, 0, none⟩)) (by show gO ≠ w.heap.size; omega)).trans ro
                replace hw := hw.setCell (p := ⟨w.heap.size, j, none⟩) (Nat.le_refl _) (.pointer (some ⟨g, 0, none⟩))
                clear cc2 hfz rg
                generalize v4.setCell ⟨w.heap.size, j, none⟩ (.pointer (some ⟨g, 0, none⟩)) = v5 at *
                have cN : v5.cell? ⟨gO, 34, none⟩ = some (.int .u32 N) := (cell_of_row _ _ 34 _ _ _ ro).trans (acr_n _ O key hkl N Mo)
                have hth := hC.there hj hkl N
                have hinf := infoR key hkl N
                have hcb := builtR key hkl N
                go_wp2_with (first | (refine wpList_load_part rfl 26 _ rfl (gO) (2) rfl 35 (acr 3 O key N Mo) (0, 0) (irow .u8 key) _ ro (acr_key 3 O key hkl N Mo) Tryd.underlying26 rfl (infok8 _ hkl) ?_) | (refine wpList_build_as rfl 29 _ rfl [(0, .agg (irow .u8 key)), (1, .int .u32 N)] rfl (chc key N) hcb ?_) | (refine wpList_store_mid rfl 29 _ _ rfl (w.heap.size + 1) (j * 33) (chc key N) rfl rfl hth hinf (chc_one _ _) ?_; refine wpList_stay ?_) | fail)
                unfold WpStay
                replace hC := hC.setD hj hkl N
                replace hw := below_setCells5 (n := w.heap.size) (g := w.heap.size + 1) (by omega) (chc key N).toList (j * 33) _ hw
                generalize v5.setCells (w.heap.size + 1) (j * 33) (chc key N).toList = v6 at *
                clear hth hinf hcb cN ro
                go_wp2_with (fail)
                go_meet
                case rel => exact ⟨rfl, _, _, _, hC, hw⟩
              rcases Classical.em (K = 4) with rfl | h4
              · obtain ⟨o, ho, hoj, hso⟩ : ∃ o : Nat, o < 2 ∧ o ≠ j ∧ (1 : Int) - (j : Int) = (o : Int) := ⟨1 - j, by omega, by omega, by omega⟩
                have hwo : IntKind.i64.wrap (o : Int) = (o : Int) := by rcases two ho with rfl | rfl <;> rfl
                have bo1 : ((o : Int) < 0) = False := by simp
                have bo2 : ((o : Int) < 2) = True := by simp; omega
                have hko := hC.kl o ho
                have hzo := hC.kb o ho
                have hno := hC.nb o ho
                have loj := hC.lo j hj
                go_upto_region 32 with (fail)
                have hbd : Below v3.heap.size v3 v3.drew := below_drN (Below.refl _ _) 1
                replace hC := hC.keep hbd
                replace hw := Below.after hw hbd
                clear hbd
                refine wp_region_noPanic ?_
                refine wp_region_held (S := fun W => W.cell? ⟨w.heap.size, o, none⟩ = some (.pointer (some ⟨pp o, 0, none⟩))) (by kernel_rfl) ?_
                change wpAnyH _ _ _ _ _ _ _ _ (World.drew _)
                generalize v3.drew = vd32 at *
                refine wpAnyH_take (i := 0) (v := ?v25) rfl (by kernel_rfl) (by kernel_rfl) (by kernel_rfl) (fun _ _ _ h => h) (Or.inl ⟨by rfl, ?y25⟩) (hC.cc ho) ?r25
                case y25 =>
                  intro w_ hS_
                  go_simp
                  try with_reducible rfl
                simp only [Act.put, List.getElem_toArray, List.getElem_cons_zero, List.setIfInBounds_toArray, List.set_cons_succ, List.set_cons_zero]
                refine wpAnyH_take (i := 1) (v := ?v26) rfl (by kernel_rfl) (by kernel_rfl) (by kernel_rfl) (fun _ _ _ h => h) (Or.inl ⟨by rfl, ?y26⟩) (hC.cc ho) ?r26
                case y26 =>
                  intro w_ hS_
                  go_simp
                  try with_reducible rfl
                simp only [Act.put, List.getElem_toArray, List.getElem_cons_succ, List.getElem_cons_zero, List.setIfInBounds_toArray, List.set_cons_succ, List.set_cons_zero]
                refine wpAnyH_take (i := 2) (v := ?v27) rfl (by kernel_rfl) (by kernel_rfl) (by kernel_rfl) (fun _ _ _ h => h) (Or.inl ⟨by rfl, ?y27⟩) (hC.cc ho) ?r27
                case y27 =>
                  intro w_ hS_
                  go_simp
                  try with_reducible rfl
                simp only [Act.put, List.getElem_toArray, List.getElem_cons_succ, List.getElem_cons_zero, List.setIfInBounds_toArray, List.set_cons_succ, List.set_cons_zero]
                refine wpAnyH_take (i := 3) (v := ?v28) rfl (by kernel_rfl) (by kernel_rfl) (by kernel_rfl) (fun _ _ _ h => h) (Or.inl ⟨by rfl, ?y28⟩) (hC.cc ho) ?r28
                case y28 =>
                  intro w_ hS_
                  go_simp
                  try with_reducible rfl
                simp only [Act.put, List.getElem_toArray, List.getElem_cons_succ, List.getElem_cons_zero, List.setIfInBounds_toArray, List.set_cons_succ, List.set_cons_zero]
                refine wpAnyH_take (i := 4) (v := .pointer (some ⟨pp o, 0, none⟩)) rfl (by kernel_rfl) (by kernel_rfl) (by kernel_rfl) (fun _ _ _ h => h) (Or.inl ⟨by rfl, ?y29⟩) (hC.cc ho) ?r29
                case y29 =>
                  intro w_ hS_
                  have c_ := hS_
                  go_simp
                  try with_reducible rfl
                simp only [Act.put, List.getElem_toArray, List.getElem_cons_succ, List.getElem_cons_zero, List.setIfInBounds_toArray, List.set_cons_succ, List.set_cons_zero]
                refine wpAnyH_take (i := 6) (v := ?v30) rfl (by kernel_rfl) (by kernel_rfl) (by kernel_rfl) (fun _ _ _ h => h) (Or.inl ⟨by rfl, ?y30⟩) (hC.cc ho) ?r30
                case y30 =>
                  intro w_ hS_
                  go_simp
                  try with_reducible rfl
                simp only [Act.put, List.getElem_toArray, List.getElem_cons_succ, List.getElem_cons_zero, List.setIfInBounds_toArray, List.set_cons_succ, List.set_cons_zero]
                refine wpAnyH_take (i := 7) (v := ?v31) rfl (by kernel_rfl) (by kernel_rfl) (by kernel_rfl) (fun _ _ _ h => h) (Or.inl ⟨by rfl, ?y31⟩) (hC.cc ho) ?r31
                case y31 =>
                  intro w_ hS_
                  go_simp
                  try with_reducible rfl
                simp only [Act.put, List.getElem_toArray, List.getElem_cons_succ, List.getElem_cons_zero, List.setIfInBounds_toArray, List.set_cons_succ, List.set_cons_zero]
                refine wpAnyH_take (i := 8) (v := ?v32) rfl (by kernel_rfl) (by kernel_rfl) (by kernel_rfl) (fun _ _ _ h => h) (Or.inl ⟨by rfl, ?y32⟩) (hC.cc ho) ?r32
                case y32 =>
                  intro w_ hS_
                  go_simp
                  try with_reducible rfl
                simp only [Act.put, List.getElem_toArray, List.getElem_cons_succ, List.getElem_cons_zero, List.setIfInBounds_toArray, List.set_cons_succ, List.set_cons_zero]
                refine wpAnyH_take (i := 9) (v := .pointer (some ⟨pp o, 0, none⟩)) rfl (by kernel_rfl) (by kernel_rfl) (by kernel_rfl) (fun _ _ _ h => h) (Or.inl ⟨by rfl, ?y33⟩) (hC.cc ho) ?r33
                case y33 =>
                  intro w_ hS_
                  have c_ := hS_
                  go_simp
                  try with_reducible rfl
                simp only [Act.put, List.getElem_toArray, List.getElem_cons_succ, List.getElem_cons_zero, List.setIfInBounds_toArray, List.set_cons_succ, List.set_cons_zero]
                refine wpAnyH_one (k := 5) (fuel := 4) (by kernel_rfl) rfl (by kernel_rfl) (fun K_ hK_ => ?_)
                refine wp_call_ex (f := 5) (by kernel_rfl) (ex1 (a_Key (ky o) hko (nn o) _ (pp o) (hC.hp o ho))) (fun v_ q7 hX_ => ?_)
                obtain ⟨rfl, hb_⟩ := hX_
                replace hC := hC.keep hb_
                replace hw := Below.after hw hb_
                clear hb_
                refine hK_ _ _ (hC.cc ho) ?_
                simp only [Act.put, List.getElem_toArray, List.getElem_cons_succ, List.getElem_cons_zero, List.setIfInBounds_toArray, List.set_cons_succ, List.set_cons_zero]
                clear hK_
                refine wpAnyH_one (k := 10) (fuel := 3) (by kernel_rfl) rfl (by kernel_rfl) (fun K_ hK_ => ?_)
                refine wp_call_ex (f := 6) (by kernel_rfl) (ex1 (a_N (ky o) hko (nn o) _ (pp o) (hC.hp o ho))) (fun v_ q9 hX_ => ?_)
                obtain ⟨rfl, hb_⟩ := hX_
                replace hC := hC.keep hb_
                replace hw := Below.after hw hb_
                clear hb_
                refine hK_ _ _ (hC.cc ho) ?_
                simp only [Act.put, List.getElem_toArray, List.getElem_cons_succ, List.getElem_cons_zero, List.setIfInBounds_toArray, List.set_cons_succ, List.set_cons_zero]
                clear hK_
                refine wpAnyH_one (k := 11) (fuel := 2) (by kernel_rfl) rfl (by kernel_rfl) (fun K_ hK_ => ?_)
                have lpp : ∀ i, i < 2 → pp i < q9.heap.size := fun i hi => lt_of_row (hC.hp i hi)
                have lgd := lt_of_row hC.hd
                refine wp_call_ex (f := 4) (by kernel_rfl) (new_k (ky o) hko (nn o) _) (fun v_ q11 hX_ => ?_)
                obtain ⟨⟨g, rfl, hg, rg⟩, hb_⟩ := hX_
                replace hC := hC.keep hb_
                replace hw := Below.after hw hb_
                clear hb_
                refine hK_ _ _ (hC.cc ho) ?_
                simp only [Act.put, List.getElem_toArray, List.getElem_cons_succ, List.getElem_cons_zero, List.setIfInBounds_toArray, List.set_cons_succ, List.set_cons_zero]
                clear hK_
                refine wpAnyH_take (i := 12) (v := ?v34) rfl (by kernel_rfl) (by kernel_rfl) (by kernel_rfl) (fun _ _ _ h => h) (Or.inl ⟨by rfl, ?y34⟩) (hC.cc ho) ?r34
                case y34 =>
                  intro w_ hS_
                  go_simp
                  try with_reducible rfl
                simp only [Act.put, List.getElem_toArray, List.getElem_cons_succ, List.getElem_cons_zero, List.setIfInBounds_toArray, List.set_cons_succ, List.set_cons_zero]
                refine wpAnyH_one (k := 13) (fuel := 0) (by kernel_rfl) rfl (by kernel_rfl) (fun K_ hK_ => ?_)
                refine wp_store_one 23 _ _ rfl (w.heap.size) j rfl (.pointer (some ⟨g, 0, none⟩)) rfl (run_store_ptr g (hC.cc hj) (by simp [World.frozen?, hC.hc])) ?_
                replace hC := hC.setC hj hko hzo hno rg (by omega) (fun i hi => by have := lpp i hi; omega)
                replace hw := hw.setCell (p := ⟨w.heap.size, j, none⟩) (Nat.le_refl _) (.pointer (some ⟨g, 0, none⟩))
                have cc5 := hC.cc ho
                rw [upd_other _ _ hoj] at cc5
                refine hK_ _ _ (cc5) ?_
                simp only [Act.put]
                clear hK_
                generalize q11.setCell ⟨w.heap.size, j, none⟩ (.pointer (some ⟨g, 0, none⟩)) = q12 at *
                refine wpAnyH_done (by kernel_rfl) ?_ _
                refine NoPanic.normal ?_
                try simp only [Act.put]
                have hDp := drow_part hC.kl2 nn ho
                have rd5 := hC.hd
                have hth := hC.there hj hko (nn o)
                have hinf := infoR (ky o) hko (nn o)
                go_wp2_with (first | (refine wpList_load_part rfl 29 _ rfl (w.heap.size + 1) (o * 33) rfl 30 (drow ky nn) (0, 0) (chc (ky o) (nn o)) _ rd5 hDp Tryd.underlying29 rfl hinf ?_) | (refine wpList_store_mid rfl 29 _ _ rfl (w.heap.size + 1) (j * 33) (chc (ky o) (nn o)) rfl rfl hth hinf (chc_one _ _) ?_; refine wpList_stay ?_) | fail)
                unfold WpStay
                replace hC := hC.setD hj hko (nn o)
                replace hw := below_setCells5 (n := w.heap.size) (g := w.heap.size + 1) (by omega) (chc (ky o) (nn o)).toList (j * 33) _ hw
                generalize q12.setCells (w.heap.size + 1) (j * 33) (chc (ky o) (nn o)).toList = v9 at *
                clear hth hinf hDp rd5
                go_wp2_with (fail)
                go_meet
                case rel => exact ⟨rfl, _, _, _, hC, hw⟩
              have b0 : (K == 0) = false := by simpa using h0
              have d0 : decide (K = 0) = false := decide_eq_false h0
              have b1 : (K == 1) = false := by simpa using h1
              have d1 : decide (K = 1) = false := decide_eq_false h1
              have b2 : (K == 2) = false := by simpa using h2
              have d2 : decide (K = 2) = false := decide_eq_false h2
              have b3 : (K == 3) = false := by simpa using h3
              have d3 : decide (K = 3) = false := decide_eq_false h3
              have b4 : (K == 4) = false := by simpa using h4
              have d4 : decide (K = 4) = false := decide_eq_false h4
              go_wp2_with (fail)
              go_meet
              case rel => exact ⟨rfl, _, _, _, hC, hw⟩
            case rest =>
              obtain ⟨rfl, p', ky', nn', hC2, hw2⟩ := hcut
              clear hC hw ro hkj hzj hnj
              have cc2 := hC2.cc hj
              have cn2 := hC2.cn hj
              have ck2 := drow_key hC2.kl2 nn' hj
              have rp2 := hC2.hp j hj
              have rd2 := hC2.hd
              have hk2 := hC2.kl j hj
              generalize drow ky' nn' = DR at *
              have hek := eqKs _ hk2
              have HD := keepr rd2
              go_upto_region 34 with (fail)
              have kc : ∀ p : Regrown, (grow (redrawn wc p.d) p.os).cell? ⟨w.heap.size, j, none⟩ = some (.pointer (some ⟨p' j, 0, none⟩)) := fun p => cell_regrown (cc2) p.d p.os
              have kn : ∀ p : Regrown, (grow (redrawn wc p.d) p.os).cell? ⟨w.heap.size + 1, j * 33 + 32, none⟩ = some (.int .u32 (nn' j)) := fun p => cell_regrown (cn2) p.d p.os
              refine wp_region_quiet_below (by kernel_rfl) (by kernel_rfl) ?_
              go_big_quiet_step (fail)
              go_big_quiet_step (fail)
              go_big_quiet_step (fail)
              go_big_quiet_step (fail)
              go_big_quiet_step (fail)
              go_big_quiet_step (fail)
              go_big_quiet_step (fail)
              go_big_quiet_step (fail)
              go_big_quiet_step (fail)
              go_big_quiet_step (fail)
              go_big_quiet_step (fail)
              go_big_quiet_step (fail)
              go_big_quiet_step (exact Calls.regrown_of (a_Key (ky' j) hk2 (nn' j) _ (p' j) (keep (below_regrown _ _ _) rp2)))
              go_big_quiet_step (fail)
              go_big_quiet_step (fail)
              go_big_quiet_step (fail)
              refine wpQuiet_load_part rfl 26 _ rfl (w.heap.size + 1) (j * 33) rfl 30 DR (0, 0) (irow .u8 (ky' j)) _ HD.out ck2 Tryd.underlying26 rfl (infok8 _ hk2) ?_
              simp only [Act.put, List.setIfInBounds_toArray, List.set_cons_succ, List.set_cons_zero]
              go_big_quiet_step (fail)
              go_big_quiet_step (fail)
              go_big_quiet_step (fail)
              go_big_quiet_step (fail)
              go_big_quiet_step (fail)
              go_big_quiet_step (fail)
              go_big_quiet_step (exact Calls.regrown_of (a_N (ky' j) hk2 (nn' j) _ (p' j) (keep (below_regrown _ _ _) rp2)))
              go_big_quiet_step (fail)
              go_big_quiet_step (fail)
              go_big_quiet_step (fail)
              go_big_quiet_step (fail)
              go_big_quiet_step (fail)
              go_big_quiet_step (fail)
              refine wpQuiet_nil ?_
              rintro _ ⟨p, rfl⟩
              have hb := below_regrown wc p.d p.os
              generalize grow (redrawn wc p.d) p.os = vz at *
              clear kc kn
              replace hC2 := hC2.keep hb
              replace hw2 := Below.after hw2 hb
              clear hb
              clear HD
              go_wp2_with (fail)
              refine ⟨?_, ?measure⟩
              apply Exists.intro
              apply Exists.intro
              repeat apply Exists.intro
              refine ⟨?rel, rfl⟩
              case rel => exact ⟨k + 1, _, _, _, by omega, rfl, hC2, hw2⟩
              case measure => simp [intOf]; omega
          · replace hbn : bnd K N Mo (nn j) = false := by simpa using hbn
            rw [hbn]
            go_wp2_with (fail)
            go_ret
            exact ⟨rfl, hw⟩
        · have hd : decide ((k : Int) < (np : Int)) = false := by simp; omega
          go_wp2_with (fail)
          go_ret
          exact ⟨rfl, hw⟩

end Go.Proofs.YtilgicikcjcdjaaDoor

namespace Go.Proofs.YtilgicikcjcdjaaDoor
set_option maxRecDepth 100000
open Go Go.ChangeShapes Go.WideShapes Go.ChangeAt Go.RowKit Go.Deep

theorem q1i : Tryd.prog.cellsOf 3 = 1 := by kernel_rfl
theorem q1u : Tryd.prog.cellsOf 27 = 1 := by kernel_rfl
theorem q8 : Tryd.prog.cellsOf 5 = 1 := by kernel_rfl
theorem q32 : Tryd.prog.cellsOf 26 = 32 := by kernel_rfl
theorem q36 : Tryd.prog.cellsOf 35 = 36 := by kernel_rfl
theorem qtake1 {cs : List Value} {k : Nat} {v : Value} (h : (cs.drop k).take 1 = [v]) : cs[k]? = some v := by
  have := congrArg List.head? h
  simpa [List.head?_take, List.head?_drop] using this
theorem qblock_of {w : World} {b o : Nat} {v : Value} (h : w.cell? ⟨b, o, none⟩ = some v) : b < w.heap.size := by
  rcases Nat.lt_or_ge b w.heap.size with q | q
  · exact q
  · simp [World.cell?, Array.getElem?_eq_none q] at h
theorem qints {H : Type} {enc : TypeId × Value → H} {W : World} {m : Nat} {cs : List Value} {x : DataW H × List MemPlace} (h : DataW.trod enc Tryd.prog W 0 (fun _ => true) true m 26 cs = some x) :
    ∃ l : List Int, l.length = 32 ∧ cs = l.map (Value.int .u8) ∧ ∀ z ∈ l, (Lit.int .u8 z).wf = true := by
  obtain ⟨xs, m, _, _, hl, hx, hi⟩ := DataW.trod_array Tryd.underlying26 h
  rw [q32] at hl
  obtain ⟨l, hl', wl⟩ := ints_of cs .u8 (fun i hi' => by
    have hin : i < 32 := by omega
    have h1 := hi i hin
    rw [q8] at h1
    have hx' : xs[i]? = some xs[i] := List.getElem?_eq_getElem (by omega)
    rw [hx'] at h1
    obtain ⟨a, e0, _, wa⟩ := DataW.trod_int Tryd.underlying5 h1
    refine ⟨a, ?_, wa⟩
    simp only [Nat.mul_one] at e0
    have q := qtake1 e0
    rw [List.getElem?_eq_getElem hi'] at q
    exact Option.some.inj q)
  refine ⟨l, ?_, hl', wl⟩
  have : cs.length = l.length := by rw [hl']; simp
  omega
theorem qlist {cs : List Value} {K O N Mo : Int} {l : List Int} (hl : l.length = 32) (hlen : cs.length = 36) (c0 : cs[0]? = some (.int .i64 K)) (c1 : cs[1]? = some (.int .i64 O)) (el : (cs.drop 2).take 32 = l.map (Value.int .u8)) (c34 : cs[34]? = some (.int .u32 N)) (c35 : cs[35]? = some (.int .i64 Mo)) : cs = (acr K O l N Mo).toList := by
  apply List.ext_getElem?
  intro i
  show cs[i]? = ([Value.int .i64 K, Value.int .i64 O] ++ (l.map (Value.int .u8) ++ [Value.int .u32 N, Value.int .i64 Mo]))[i]?
  have hml : (l.map (Value.int .u8)).length = 32 := by simpa using hl
  by_cases h2 : i < 2
  · rcases (by omega : i = 0 ∨ i = 1) with rfl | rfl
    · exact c0
    · exact c1
  · rw [List.getElem?_append_right (by simp; omega)]
    simp only [List.length_cons, List.length_nil, Nat.zero_add, Nat.reduceAdd]
    by_cases h34 : i < 34
    · rw [List.getElem?_append_left (by omega), ← el, List.getElem?_take_of_lt (by omega), List.getElem?_drop, show 2 + (i - 2) = i by omega]
    · rw [List.getElem?_append_right (by omega), hml]
      by_cases h36 : i < 36
      · rcases (by omega : i = 34 ∨ i = 35) with rfl | rfl
        · exact c34
        · exact c35
      · rw [List.getElem?_eq_none (by omega), List.getElem?_eq_none (by simp; omega)]
set_option maxRecDepth 100000 in
theorem qact {H : Type} {enc : TypeId × Value → H} {W : World} {m : Nat} {cs : List Value} {x : DataW H × List MemPlace} (h : DataW.trod enc Tryd.prog W 0 (fun _ => true) true m 35 cs = some x) : ∃ (K O : Int) (key : List Int) (N Mo : Int), key.length = 32 ∧ (∀ z ∈ key, 0 ≤ z ∧ z < 256) ∧ (0 ≤ N ∧ N ≤ 4294967295) ∧ (-9223372036854775808 ≤ Mo ∧ Mo ≤ 9223372036854775807) ∧ cs = (acr K O key N Mo).toList := by
  obtain ⟨xs, m, rfl, rfl, hlen, hxl, hf⟩ := DataW.trod_struct Tryd.underlying35 h
  rw [q36] at hlen
  have g0 := hf 0 _ rfl; have g1 := hf 1 _ rfl; have g2 := hf 2 _ rfl; have g3 := hf 3 _ rfl; have g4 := hf 4 _ rfl
  clear hf h
  match xs, hxl, g0, g1, g2, g3, g4 with
  | [x0, x1, x2, x3, x4], _, g0, g1, g2, g3, g4 =>
    obtain ⟨K, e0, _, _⟩ := DataW.trod_int Tryd.underlying3 g0
    obtain ⟨O, e1, _, _⟩ := DataW.trod_int Tryd.underlying3 g1
    obtain ⟨N, e3, _, wN⟩ := DataW.trod_int Tryd.underlying27 g3
    obtain ⟨Mo, e4, _, wM⟩ := DataW.trod_int Tryd.underlying3 g4
    have c0 : cs[0]? = some (.int .i64 K) := by
      have q : (cs.drop 0).take (Tryd.prog.cellsOf 3) = [.int .i64 K] := e0
      rw [q1i] at q
      exact qtake1 q
    have c1 : cs[1]? = some (.int .i64 O) := by
      have q : (cs.drop 1).take (Tryd.prog.cellsOf 3) = [.int .i64 O] := e1
      rw [q1i] at q
      exact qtake1 q
    have c34 : cs[34]? = some (.int .u32 N) := by
      have q : (cs.drop 34).take (Tryd.prog.cellsOf 27) = [.int .u32 N] := e3
      rw [q1u] at q
      exact qtake1 q
    have c35 : cs[35]? = some (.int .i64 Mo) := by
      have q : (cs.drop 35).take (Tryd.prog.cellsOf 3) = [.int .i64 Mo] := e4
      rw [q1i] at q
      exact qtake1 q
    have q2 : DataW.trod enc Tryd.prog W 0 (fun _ => true) true m 26 ((cs.drop 2).take (Tryd.prog.cellsOf 26)) = some x2 := g2
    rw [q32] at q2
    obtain ⟨l, hl, el, wl⟩ := qints q2
    exact ⟨K, O, l, N, Mo, hl, fun z hz => u8_of_wf (wl z hz), bounds_u32 wN, bounds_i64 wM, qlist hl hlen c0 c1 el c34 c35⟩
theorem qadd (b off j : Nat) : (⟨b, off, none⟩ : Addr).add j = ⟨b, off + j, none⟩ := by
  unfold Addr.add
  split
  · rename_i h; rw [h]; rfl
  · rfl
theorem acl_of_trod {H : Type} {enc : TypeId × Value → H} {W : World} {m : Nat} {v : Value} {x : DataW H × List MemPlace} (hf : DataW.trod enc Tryd.prog W 0 (fun _ => true) true m 22 [v] = some x) : ∃ n, Acl W v n := by
  rcases open_slice Tryd.underlying22 hf with ⟨hcs, hx⟩ | ⟨a, len, cap, m, n, D, Pl, hcs, _, hl, hm, hmm, hx, hel⟩
  · injection hcs with hv _
    subst hv
    exact ⟨0, none, 0, rfl, by decide, fun i hi => by omega⟩
  · injection hcs with hv _
    subst hv
    subst hx
    simp only [if_true] at hmm
    subst hmm
    rw [q36] at hel
    simp only [maxLen] at hm
    refine ⟨len, some a, _, rfl, by omega, fun i hi => ?_⟩
    obtain ⟨cs', h1, h2⟩ := hel i (by omega)
    obtain ⟨K, O, key, N, Mo, k1, k2, k3, k4, rfl⟩ := qact h2
    obtain ⟨_, hln, hc⟩ := World.cells?_some h1
    obtain ⟨bb, off, spot⟩ := a
    have hspot : spot = none := by
      obtain ⟨cs0, h0, _⟩ := hel 0 (by omega)
      obtain ⟨_, hl0, hc0⟩ := World.cells?_some h0
      have := hc0 0 (by omega)
      rw [List.getElem?_eq_getElem (by omega)] at this
      simpa [Addr.add] using World.cell?_spot this
    subst hspot
    have hr : W.rangeAt bb (off + i * 36) (acr K O key N Mo).toList := by
      intro j v hv
      have hj : j < 36 := by have := (List.getElem?_eq_some_iff.1 hv).1; omega
      have := hc j hj
      rw [qadd, qadd, hv] at this
      exact this
    refine ⟨bb, off, rfl, ?_, K, O, key, N, Mo, k1, k2, k3, k4, hr⟩
    have h0 := hr 0 _ (List.getElem?_eq_getElem (by omega))
    exact qblock_of h0
end Go.Proofs.YtilgicikcjcdjaaDoor
