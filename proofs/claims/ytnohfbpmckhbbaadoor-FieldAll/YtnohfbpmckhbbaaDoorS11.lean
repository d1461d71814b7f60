import Derived.Test.YtnohfbpmckhbbaaDoorProg
import Derived.WalkKit
import Derived.WalkSpells
import Derived.WalkLawsBesides
import Derived.Lib.QuietBelow
import Derived.BigQuiet
import Derived.Test.YtnohfbpmckhbbaaDoorS0
import Derived.Test.YtnohfbpmckhbbaaDoorS10
import Derived.Test.YtnohfbpmckhbbaaDoorS6
import Derived.Deep.MidRow
import Derived.Test.YtnohfbpmckhbbaaDoorS4
import Derived.Test.YtnohfbpmckhbbaaDoorS7
import Derived.OrdersHeld
namespace Go.Proofs.YtnohfbpmckhbbaaDoor
set_option maxRecDepth 100000
open Go.RowKit Go.Sort
attribute [local go_sem] setCell_drewN alloc_drewN

theorem mod_d (A : Int) : A % prm % prm = A % prm := Int.emod_emod_of_dvd _ (Int.dvd_refl _)
set_option maxRecDepth 100000 in
set_option maxHeartbeats 2000000 in
theorem refMade_0 {oc kp : Array Value} {x y N Nk T A B U : Int} {dv : Value} {F : Bool} {bs : List Int} (ho : OpOf oc 0 T A B N dv kp F U) (hk : KeyOf kp Nk) (hN : 0 ≤ N ∧ N < 18446744073709551616) (hz : ∀ z ∈ bs, 0 ≤ z ∧ z < 256) (hl : bs.length + 32 ≤ 281474976710656) (hnil : ∀ a l c, dv = .slice a l c → a = none → c = 0) (w : World) (hB : Bys w dv bs) : Calls Tryd.prog 8 #[.agg oc, .agg (rd (x % prm)), .agg (rd (y % prm))] w fun e w' => e = .returned (.agg (rd ((Nk % 57896044618658097711785492504343953926634992332820282019728792003956564819968) % prm))) ∧ Below w.heap.size w w' := by
  have _hu : _ ∧ _ ∧ _ ∧ _ ∧ _ ∧ _ := ⟨hk, hN, hz, hl, hnil, hB⟩
  clear _hu
  have c := r_from hk
  generalize (Nk % 57896044618658097711785492504343953926634992332820282019728792003956564819968) % prm = u at *
  generalize hr : rd (x % prm) = r at *
  generalize ht : rd (y % prm) = t at *
  have hrI : (Tryd.prog.info? 30).map (·.size) = some r.size := hr ▸ rd_info _
  have htI : (Tryd.prog.info? 30).map (·.size) = some t.size := ht ▸ rd_info _
  clear hr ht
  have hc0 : ((((w.alloc (.cells oc 36)).alloc (.cells r 30)).alloc (.cells t 30)).alloc (.cells #[.int .u64 0, .int .u64 0, .int .u64 0, .int .u64 0, .int .u64 0, .int .u64 0, .int .u64 0, .int .u64 0, .int .u64 0, .int .u64 0, .int .u64 0, .int .u64 0, .int .u64 0, .int .u64 0, .int .u64 0, .int .u64 0] 30)).cell? ⟨w.heap.size, 0, none⟩ = some (.int .i64 0) := (cell_of_row _ _ _ _ _ _ (hp4_0 w _ _ _ _)).trans ho.c0
  have rp1 : ((((w.alloc (.cells oc 36)).alloc (.cells r 30)).alloc (.cells t 30)).alloc (.cells #[.int .u64 0, .int .u64 0, .int .u64 0, .int .u64 0, .int .u64 0, .int .u64 0, .int .u64 0, .int .u64 0, .int .u64 0, .int .u64 0, .int .u64 0, .int .u64 0, .int .u64 0, .int .u64 0, .int .u64 0, .int .u64 0] 30)).heap[w.heap.size + 1]? = some (.cells r 30 (0, 0)) := hp4_1 w _ _ _ _
  have rp2 : ((((w.alloc (.cells oc 36)).alloc (.cells r 30)).alloc (.cells t 30)).alloc (.cells #[.int .u64 0, .int .u64 0, .int .u64 0, .int .u64 0, .int .u64 0, .int .u64 0, .int .u64 0, .int .u64 0, .int .u64 0, .int .u64 0, .int .u64 0, .int .u64 0, .int .u64 0, .int .u64 0, .int .u64 0, .int .u64 0] 30)).heap[w.heap.size + 1 + 1]? = some (.cells t 30 (0, 0)) := hp4_2 w _ _ _ _
  have hkey : ((((w.alloc (.cells oc 36)).alloc (.cells r 30)).alloc (.cells t 30)).alloc (.cells #[.int .u64 0, .int .u64 0, .int .u64 0, .int .u64 0, .int .u64 0, .int .u64 0, .int .u64 0, .int .u64 0, .int .u64 0, .int .u64 0, .int .u64 0, .int .u64 0, .int .u64 0, .int .u64 0, .int .u64 0, .int .u64 0] 30)).rangeAt (w.heap.size) 6 kp.toList := by rw [← ho.key]; exact World.rangeAt_of_block (hp4_0 w _ _ _ _) 6 32
  have hkI : (Tryd.prog.info? 34).map (·.size) = some kp.toList.length := by rw [Array.length_toList]; exact hk.info
  have rp3 : ((((w.alloc (.cells oc 36)).alloc (.cells r 30)).alloc (.cells t 30)).alloc (.cells #[.int .u64 0, .int .u64 0, .int .u64 0, .int .u64 0, .int .u64 0, .int .u64 0, .int .u64 0, .int .u64 0, .int .u64 0, .int .u64 0, .int .u64 0, .int .u64 0, .int .u64 0, .int .u64 0, .int .u64 0, .int .u64 0] 30)).heap[w.heap.size + 1 + 1 + 1]? = some (.cells #[.int .u64 0, .int .u64 0, .int .u64 0, .int .u64 0, .int .u64 0, .int .u64 0, .int .u64 0, .int .u64 0, .int .u64 0, .int .u64 0, .int .u64 0, .int .u64 0, .int .u64 0, .int .u64 0, .int .u64 0, .int .u64 0] 30 (0, 0)) := hp4_3 w _ _ _ _
  have hw : Below w.heap.size w ((((w.alloc (.cells oc 36)).alloc (.cells r 30)).alloc (.cells t 30)).alloc (.cells #[.int .u64 0, .int .u64 0, .int .u64 0, .int .u64 0, .int .u64 0, .int .u64 0, .int .u64 0, .int .u64 0, .int .u64 0, .int .u64 0, .int .u64 0, .int .u64 0, .int .u64 0, .int .u64 0, .int .u64 0, .int .u64 0] 30)) := ((((Below.refl _ _).alloc (Nat.le_refl _) _).alloc (by simp) _).alloc (by simp; omega) _).alloc (by simp; omega) _
  clear hz hl ho hB hnil hN
  go_enter Tryd.func8, Tryd.ntmps8
  iterate 15 go_step
  generalize ((((w.alloc (.cells oc 36)).alloc (.cells r 30)).alloc (.cells t 30)).alloc (.cells #[.int .u64 0, .int .u64 0, .int .u64 0, .int .u64 0, .int .u64 0, .int .u64 0, .int .u64 0, .int .u64 0, .int .u64 0, .int .u64 0, .int .u64 0, .int .u64 0, .int .u64 0, .int .u64 0, .int .u64 0, .int .u64 0] 30)) = w0 at *
  go_wp2_with (first | (refine wpList_load_want rfl 30 _ rfl (w.heap.size + 1) rfl 30 r (0, 0) _ rp1 Tryd.underlying30 rfl hrI ?_) | (refine wpList_load_want rfl 30 _ rfl (w.heap.size + 1 + 1) rfl 30 t (0, 0) _ rp2 Tryd.underlying30 rfl htI ?_) | (refine wpList_load_mid rfl 34 _ rfl (w.heap.size) 6 rfl kp.toList _ hkey Tryd.underlying34 rfl hkI ?_) | fail)
  refine (c.at _).mono ?_
  rintro e w1 ⟨rfl, hb⟩
  replace rp3 := keep hb rp3
  replace hw := Below.after hw hb
  have hn3 := lt_of_row rp3
  clear hb hc0 rp1 rp2 hkey
  go_wp2_with (first | (refine wpList_store_row rfl 30 _ _ rfl (w.heap.size + 1 + 1 + 1) (rd u) rfl rfl 30 _ rp3 (rd_info _) rfl (rd_one _) ?_) | fail)
  exact bodyPost_ret (v := .agg (rd u)) (results_cell_row Tryd.results8 _ _ (w.heap.size + 1 + 1 + 1) _ (rd u) _ _ rfl (setRow_heap _ _ _ _ _ _ rp3) Tryd.underlying30 rfl (rd_info _)) rfl ⟨rfl, below_setRow hw (by omega) _⟩
set_option maxRecDepth 100000 in
set_option maxHeartbeats 2000000 in
theorem refMade_1 {oc kp : Array Value} {x y N Nk T A B U : Int} {dv : Value} {F : Bool} {bs : List Int} (ho : OpOf oc 1 T A B N dv kp F U) (hk : KeyOf kp Nk) (hN : 0 ≤ N ∧ N < 18446744073709551616) (hz : ∀ z ∈ bs, 0 ≤ z ∧ z < 256) (hl : bs.length + 32 ≤ 281474976710656) (hnil : ∀ a l c, dv = .slice a l c → a = none → c = 0) (w : World) (hB : Bys w dv bs) : Calls Tryd.prog 8 #[.agg oc, .agg (rd (x % prm)), .agg (rd (y % prm))] w fun e w' => e = .returned (.agg (rd (N % prm))) ∧ Below w.heap.size w w' := by
  have _hu : _ ∧ _ ∧ _ ∧ _ ∧ _ ∧ _ := ⟨hk, hN, hz, hl, hnil, hB⟩
  clear _hu
  have c : Gives 13 #[.int .u64 N] (.agg (rd (N % prm))) := by
    rw [Int.emod_eq_of_lt hN.1 (Int.lt_trans hN.2 (by decide))]
    exact r_small N hN.1 hN.2
  generalize N % prm = u at *
  generalize hr : rd (x % prm) = r at *
  generalize ht : rd (y % prm) = t at *
  have hrI : (Tryd.prog.info? 30).map (·.size) = some r.size := hr ▸ rd_info _
  have htI : (Tryd.prog.info? 30).map (·.size) = some t.size := ht ▸ rd_info _
  clear hr ht
  have hc0 : ((((w.alloc (.cells oc 36)).alloc (.cells r 30)).alloc (.cells t 30)).alloc (.cells #[.int .u64 0, .int .u64 0, .int .u64 0, .int .u64 0, .int .u64 0, .int .u64 0, .int .u64 0, .int .u64 0, .int .u64 0, .int .u64 0, .int .u64 0, .int .u64 0, .int .u64 0, .int .u64 0, .int .u64 0, .int .u64 0] 30)).cell? ⟨w.heap.size, 0, none⟩ = some (.int .i64 1) := (cell_of_row _ _ _ _ _ _ (hp4_0 w _ _ _ _)).trans ho.c0
  have hc4 : ((((w.alloc (.cells oc 36)).alloc (.cells r 30)).alloc (.cells t 30)).alloc (.cells #[.int .u64 0, .int .u64 0, .int .u64 0, .int .u64 0, .int .u64 0, .int .u64 0, .int .u64 0, .int .u64 0, .int .u64 0, .int .u64 0, .int .u64 0, .int .u64 0, .int .u64 0, .int .u64 0, .int .u64 0, .int .u64 0] 30)).cell? ⟨w.heap.size, 4, none⟩ = some (.int .u64 N) := (cell_of_row _ _ _ _ _ _ (hp4_0 w _ _ _ _)).trans ho.c4
  have rp1 : ((((w.alloc (.cells oc 36)).alloc (.cells r 30)).alloc (.cells t 30)).alloc (.cells #[.int .u64 0, .int .u64 0, .int .u64 0, .int .u64 0, .int .u64 0, .int .u64 0, .int .u64 0, .int .u64 0, .int .u64 0, .int .u64 0, .int .u64 0, .int .u64 0, .int .u64 0, .int .u64 0, .int .u64 0, .int .u64 0] 30)).heap[w.heap.size + 1]? = some (.cells r 30 (0, 0)) := hp4_1 w _ _ _ _
  have rp2 : ((((w.alloc (.cells oc 36)).alloc (.cells r 30)).alloc (.cells t 30)).alloc (.cells #[.int .u64 0, .int .u64 0, .int .u64 0, .int .u64 0, .int .u64 0, .int .u64 0, .int .u64 0, .int .u64 0, .int .u64 0, .int .u64 0, .int .u64 0, .int .u64 0, .int .u64 0, .int .u64 0, .int .u64 0, .int .u64 0] 30)).heap[w.heap.size + 1 + 1]? = some (.cells t 30 (0, 0)) := hp4_2 w _ _ _ _
  have rp3 : ((((w.alloc (.cells oc 36)).alloc (.cells r 30)).alloc (.cells t 30)).alloc (.cells #[.int .u64 0, .int .u64 0, .int .u64 0, .int .u64 0, .int .u64 0, .int .u64 0, .int .u64 0, .int .u64 0, .int .u64 0, .int .u64 0, .int .u64 0, .int .u64 0, .int .u64 0, .int .u64 0, .int .u64 0, .int .u64 0] 30)).heap[w.heap.size + 1 + 1 + 1]? = some (.cells #[.int .u64 0, .int .u64 0, .int .u64 0, .int .u64 0, .int .u64 0, .int .u64 0, .int .u64 0, .int .u64 0, .int .u64 0, .int .u64 0, .int .u64 0, .int .u64 0, .int .u64 0, .int .u64 0, .int .u64 0, .int .u64 0] 30 (0, 0)) := hp4_3 w _ _ _ _
  have hw : Below w.heap.size w ((((w.alloc (.cells oc 36)).alloc (.cells r 30)).alloc (.cells t 30)).alloc (.cells #[.int .u64 0, .int .u64 0, .int .u64 0, .int .u64 0, .int .u64 0, .int .u64 0, .int .u64 0, .int .u64 0, .int .u64 0, .int .u64 0, .int .u64 0, .int .u64 0, .int .u64 0, .int .u64 0, .int .u64 0, .int .u64 0] 30)) := ((((Below.refl _ _).alloc (Nat.le_refl _) _).alloc (by simp) _).alloc (by simp; omega) _).alloc (by simp; omega) _
  clear hz hl ho hB hnil hk
  go_enter Tryd.func8, Tryd.ntmps8
  iterate 15 go_step
  generalize ((((w.alloc (.cells oc 36)).alloc (.cells r 30)).alloc (.cells t 30)).alloc (.cells #[.int .u64 0, .int .u64 0, .int .u64 0, .int .u64 0, .int .u64 0, .int .u64 0, .int .u64 0, .int .u64 0, .int .u64 0, .int .u64 0, .int .u64 0, .int .u64 0, .int .u64 0, .int .u64 0, .int .u64 0, .int .u64 0] 30)) = w0 at *
  go_wp2_with (first | (refine wpList_load_want rfl 30 _ rfl (w.heap.size + 1) rfl 30 r (0, 0) _ rp1 Tryd.underlying30 rfl hrI ?_) | (refine wpList_load_want rfl 30 _ rfl (w.heap.size + 1 + 1) rfl 30 t (0, 0) _ rp2 Tryd.underlying30 rfl htI ?_) | fail)
  refine (c.at _).mono ?_
  rintro e w1 ⟨rfl, hb⟩
  replace rp3 := keep hb rp3
  replace hw := Below.after hw hb
  have hn3 := lt_of_row rp3
  clear hb hc0 rp1 rp2 hc4
  go_wp2_with (first | (refine wpList_store_row rfl 30 _ _ rfl (w.heap.size + 1 + 1 + 1) (rd u) rfl rfl 30 _ rp3 (rd_info _) rfl (rd_one _) ?_) | fail)
  exact bodyPost_ret (v := .agg (rd u)) (results_cell_row Tryd.results8 _ _ (w.heap.size + 1 + 1 + 1) _ (rd u) _ _ rfl (setRow_heap _ _ _ _ _ _ rp3) Tryd.underlying30 rfl (rd_info _)) rfl ⟨rfl, below_setRow hw (by omega) _⟩
set_option maxRecDepth 100000 in
set_option maxHeartbeats 2000000 in
theorem refMade_2 {oc kp : Array Value} {x y N Nk T A B U : Int} {dv : Value} {F : Bool} {bs : List Int} (ho : OpOf oc 2 T A B N dv kp F U) (hk : KeyOf kp Nk) (hN : 0 ≤ N ∧ N < 18446744073709551616) (hz : ∀ z ∈ bs, 0 ≤ z ∧ z < 256) (hl : bs.length + 32 ≤ 281474976710656) (hnil : ∀ a l c, dv = .slice a l c → a = none → c = 0) (w : World) (hB : Bys w dv bs) : Calls Tryd.prog 8 #[.agg oc, .agg (rd (x % prm)), .agg (rd (y % prm))] w fun e w' => e = .returned (.agg (rd ((x + y) % prm))) ∧ Below w.heap.size w w' := by
  have _hu : _ ∧ _ ∧ _ ∧ _ ∧ _ ∧ _ := ⟨hk, hN, hz, hl, hnil, hB⟩
  clear _hu
  have c := r_add (inP_mod x) (inP_mod y)
  have e : (x % prm + y % prm) % prm = (x + y) % prm := (Int.add_emod x y prm).symm
  rw [e] at c
  clear e
  generalize (x + y) % prm = u at *
  generalize hr : rd (x % prm) = r at *
  generalize ht : rd (y % prm) = t at *
  have hrI : (Tryd.prog.info? 30).map (·.size) = some r.size := hr ▸ rd_info _
  have htI : (Tryd.prog.info? 30).map (·.size) = some t.size := ht ▸ rd_info _
  clear hr ht
  have hc0 : ((((w.alloc (.cells oc 36)).alloc (.cells r 30)).alloc (.cells t 30)).alloc (.cells #[.int .u64 0, .int .u64 0, .int .u64 0, .int .u64 0, .int .u64 0, .int .u64 0, .int .u64 0, .int .u64 0, .int .u64 0, .int .u64 0, .int .u64 0, .int .u64 0, .int .u64 0, .int .u64 0, .int .u64 0, .int .u64 0] 30)).cell? ⟨w.heap.size, 0, none⟩ = some (.int .i64 2) := (cell_of_row _ _ _ _ _ _ (hp4_0 w _ _ _ _)).trans ho.c0
  have rp1 : ((((w.alloc (.cells oc 36)).alloc (.cells r 30)).alloc (.cells t 30)).alloc (.cells #[.int .u64 0, .int .u64 0, .int .u64 0, .int .u64 0, .int .u64 0, .int .u64 0, .int .u64 0, .int .u64 0, .int .u64 0, .int .u64 0, .int .u64 0, .int .u64 0, .int .u64 0, .int .u64 0, .int .u64 0, .int .u64 0] 30)).heap[w.heap.size + 1]? = some (.cells r 30 (0, 0)) := hp4_1 w _ _ _ _
  have rp2 : ((((w.alloc (.cells oc 36)).alloc (.cells r 30)).alloc (.cells t 30)).alloc (.cells #[.int .u64 0, .int .u64 0, .int .u64 0, .int .u64 0, .int .u64 0, .int .u64 0, .int .u64 0, .int .u64 0, .int .u64 0, .int .u64 0, .int .u64 0, .int .u64 0, .int .u64 0, .int .u64 0, .int .u64 0, .int .u64 0] 30)).heap[w.heap.size + 1 + 1]? = some (.cells t 30 (0, 0)) := hp4_2 w _ _ _ _
  have rp3 : ((((w.alloc (.cells oc 36)).alloc (.cells r 30)).alloc (.cells t 30)).alloc (.cells #[.int .u64 0, .int .u64 0, .int .u64 0, .int .u64 0, .int .u64 0, .int .u64 0, .int .u64 0, .int .u64 0, .int .u64 0, .int .u64 0, .int .u64 0, .int .u64 0, .int .u64 0, .int .u64 0, .int .u64 0, .int .u64 0] 30)).heap[w.heap.size + 1 + 1 + 1]? = some (.cells #[.int .u64 0, .int .u64 0, .int .u64 0, .int .u64 0, .int .u64 0, .int .u64 0, .int .u64 0, .int .u64 0, .int .u64 0, .int .u64 0, .int .u64 0, .int .u64 0, .int .u64 0, .int .u64 0, .int .u64 0, .int .u64 0] 30 (0, 0)) := hp4_3 w _ _ _ _
  have hw : Below w.heap.size w ((((w.alloc (.cells oc 36)).alloc (.cells r 30)).alloc (.cells t 30)).alloc (.cells #[.int .u64 0, .int .u64 0, .int .u64 0, .int .u64 0, .int .u64 0, .int .u64 0, .int .u64 0, .int .u64 0, .int .u64 0, .int .u64 0, .int .u64 0, .int .u64 0, .int .u64 0, .int .u64 0, .int .u64 0, .int .u64 0] 30)) := ((((Below.refl _ _).alloc (Nat.le_refl _) _).alloc (by simp) _).alloc (by simp; omega) _).alloc (by simp; omega) _
  clear hz hl ho hB hnil hN hk
  go_enter Tryd.func8, Tryd.ntmps8
  iterate 15 go_step
  generalize ((((w.alloc (.cells oc 36)).alloc (.cells r 30)).alloc (.cells t 30)).alloc (.cells #[.int .u64 0, .int .u64 0, .int .u64 0, .int .u64 0, .int .u64 0, .int .u64 0, .int .u64 0, .int .u64 0, .int .u64 0, .int .u64 0, .int .u64 0, .int .u64 0, .int .u64 0, .int .u64 0, .int .u64 0, .int .u64 0] 30)) = w0 at *
  go_wp2_with (first | (refine wpList_load_want rfl 30 _ rfl (w.heap.size + 1) rfl 30 r (0, 0) _ rp1 Tryd.underlying30 rfl hrI ?_) | (refine wpList_load_want rfl 30 _ rfl (w.heap.size + 1 + 1) rfl 30 t (0, 0) _ rp2 Tryd.underlying30 rfl htI ?_) | fail)
  refine (c.at _).mono ?_
  rintro e w1 ⟨rfl, hb⟩
  replace rp3 := keep hb rp3
  replace hw := Below.after hw hb
  have hn3 := lt_of_row rp3
  clear hb hc0 rp1 rp2
  go_wp2_with (first | (refine wpList_store_row rfl 30 _ _ rfl (w.heap.size + 1 + 1 + 1) (rd u) rfl rfl 30 _ rp3 (rd_info _) rfl (rd_one _) ?_) | fail)
  exact bodyPost_ret (v := .agg (rd u)) (results_cell_row Tryd.results8 _ _ (w.heap.size + 1 + 1 + 1) _ (rd u) _ _ rfl (setRow_heap _ _ _ _ _ _ rp3) Tryd.underlying30 rfl (rd_info _)) rfl ⟨rfl, below_setRow hw (by omega) _⟩
set_option maxRecDepth 100000 in
set_option maxHeartbeats 2000000 in
theorem refMade_3 {oc kp : Array Value} {x y N Nk T A B U : Int} {dv : Value} {F : Bool} {bs : List Int} (ho : OpOf oc 3 T A B N dv kp F U) (hk : KeyOf kp Nk) (hN : 0 ≤ N ∧ N < 18446744073709551616) (hz : ∀ z ∈ bs, 0 ≤ z ∧ z < 256) (hl : bs.length + 32 ≤ 281474976710656) (hnil : ∀ a l c, dv = .slice a l c → a = none → c = 0) (w : World) (hB : Bys w dv bs) : Calls Tryd.prog 8 #[.agg oc, .agg (rd (x % prm)), .agg (rd (y % prm))] w fun e w' => e = .returned (.agg (rd ((x - y) % prm))) ∧ Below w.heap.size w w' := by
  have _hu : _ ∧ _ ∧ _ ∧ _ ∧ _ ∧ _ := ⟨hk, hN, hz, hl, hnil, hB⟩
  clear _hu
  have c := r_sub (inP_mod x) (inP_mod y)
  have e : (x % prm - y % prm) % prm = (x - y) % prm := (Int.sub_emod x y prm).symm
  rw [e] at c
  clear e
  generalize (x - y) % prm = u at *
  generalize hr : rd (x % prm) = r at *
  generalize ht : rd (y % prm) = t at *
  have hrI : (Tryd.prog.info? 30).map (·.size) = some r.size := hr ▸ rd_info _
  have htI : (Tryd.prog.info? 30).map (·.size) = some t.size := ht ▸ rd_info _
  clear hr ht
  have hc0 : ((((w.alloc (.cells oc 36)).alloc (.cells r 30)).alloc (.cells t 30)).alloc (.cells #[.int .u64 0, .int .u64 0, .int .u64 0, .int .u64 0, .int .u64 0, .int .u64 0, .int .u64 0, .int .u64 0, .int .u64 0, .int .u64 0, .int .u64 0, .int .u64 0, .int .u64 0, .int .u64 0, .int .u64 0, .int .u64 0] 30)).cell? ⟨w.heap.size, 0, none⟩ = some (.int .i64 3) := (cell_of_row _ _ _ _ _ _ (hp4_0 w _ _ _ _)).trans ho.c0
  have rp1 : ((((w.alloc (.cells oc 36)).alloc (.cells r 30)).alloc (.cells t 30)).alloc (.cells #[.int .u64 0, .int .u64 0, .int .u64 0, .int .u64 0, .int .u64 0, .int .u64 0, .int .u64 0, .int .u64 0, .int .u64 0, .int .u64 0, .int .u64 0, .int .u64 0, .int .u64 0, .int .u64 0, .int .u64 0, .int .u64 0] 30)).heap[w.heap.size + 1]? = some (.cells r 30 (0, 0)) := hp4_1 w _ _ _ _
  have rp2 : ((((w.alloc (.cells oc 36)).alloc (.cells r 30)).alloc (.cells t 30)).alloc (.cells #[.int .u64 0, .int .u64 0, .int .u64 0, .int .u64 0, .int .u64 0, .int .u64 0, .int .u64 0, .int .u64 0, .int .u64 0, .int .u64 0, .int .u64 0, .int .u64 0, .int .u64 0, .int .u64 0, .int .u64 0, .int .u64 0] 30)).heap[w.heap.size + 1 + 1]? = some (.cells t 30 (0, 0)) := hp4_2 w _ _ _ _
  have rp3 : ((((w.alloc (.cells oc 36)).alloc (.cells r 30)).alloc (.cells t 30)).alloc (.cells #[.int .u64 0, .int .u64 0, .int .u64 0, .int .u64 0, .int .u64 0, .int .u64 0, .int .u64 0, .int .u64 0, .int .u64 0, .int .u64 0, .int .u64 0, .int .u64 0, .int .u64 0, .int .u64 0, .int .u64 0, .int .u64 0] 30)).heap[w.heap.size + 1 + 1 + 1]? = some (.cells #[.int .u64 0, .int .u64 0, .int .u64 0, .int .u64 0, .int .u64 0, .int .u64 0, .int .u64 0, .int .u64 0, .int .u64 0, .int .u64 0, .int .u64 0, .int .u64 0, .int .u64 0, .int .u64 0, .int .u64 0, .int .u64 0] 30 (0, 0)) := hp4_3 w _ _ _ _
  have hw : Below w.heap.size w ((((w.alloc (.cells oc 36)).alloc (.cells r 30)).alloc (.cells t 30)).alloc (.cells #[.int .u64 0, .int .u64 0, .int .u64 0, .int .u64 0, .int .u64 0, .int .u64 0, .int .u64 0, .int .u64 0, .int .u64 0, .int .u64 0, .int .u64 0, .int .u64 0, .int .u64 0, .int .u64 0, .int .u64 0, .int .u64 0] 30)) := ((((Below.refl _ _).alloc (Nat.le_refl _) _).alloc (by simp) _).alloc (by simp; omega) _).alloc (by simp; omega) _
  clear hz hl ho hB hnil hN hk
  go_enter Tryd.func8, Tryd.ntmps8
  iterate 15 go_step
  generalize ((((w.alloc (.cells oc 36)).alloc (.cells r 30)).alloc (.cells t 30)).alloc (.cells #[.int .u64 0, .int .u64 0, .int .u64 0, .int .u64 0, .int .u64 0, .int .u64 0, .int .u64 0, .int .u64 0, .int .u64 0, .int .u64 0, .int .u64 0, .int .u64 0, .int .u64 0, .int .u64 0, .int .u64 0, .int .u64 0] 30)) = w0 at *
  go_wp2_with (first | (refine wpList_load_want rfl 30 _ rfl (w.heap.size + 1) rfl 30 r (0, 0) _ rp1 Tryd.underlying30 rfl hrI ?_) | (refine wpList_load_want rfl 30 _ rfl (w.heap.size + 1 + 1) rfl 30 t (0, 0) _ rp2 Tryd.underlying30 rfl htI ?_) | fail)
  refine (c.at _).mono ?_
  rintro e w1 ⟨rfl, hb⟩
  replace rp3 := keep hb rp3
  replace hw := Below.after hw hb
  have hn3 := lt_of_row rp3
  clear hb hc0 rp1 rp2
  go_wp2_with (first | (refine wpList_store_row rfl 30 _ _ rfl (w.heap.size + 1 + 1 + 1) (rd u) rfl rfl 30 _ rp3 (rd_info _) rfl (rd_one _) ?_) | fail)
  exact bodyPost_ret (v := .agg (rd u)) (results_cell_row Tryd.results8 _ _ (w.heap.size + 1 + 1 + 1) _ (rd u) _ _ rfl (setRow_heap _ _ _ _ _ _ rp3) Tryd.underlying30 rfl (rd_info _)) rfl ⟨rfl, below_setRow hw (by omega) _⟩
set_option maxRecDepth 100000 in
set_option maxHeartbeats 2000000 in
theorem refMade_4 {oc kp : Array Value} {x y N Nk T A B U : Int} {dv : Value} {F : Bool} {bs : List Int} (ho : OpOf oc 4 T A B N dv kp F U) (hk : KeyOf kp Nk) (hN : 0 ≤ N ∧ N < 18446744073709551616) (hz : ∀ z ∈ bs, 0 ≤ z ∧ z < 256) (hl : bs.length + 32 ≤ 281474976710656) (hnil : ∀ a l c, dv = .slice a l c → a = none → c = 0) (w : World) (hB : Bys w dv bs) : Calls Tryd.prog 8 #[.agg oc, .agg (rd (x % prm)), .agg (rd (y % prm))] w fun e w' => e = .returned (.agg (rd ((-x) % prm))) ∧ Below w.heap.size w w' := by
  have _hu : _ ∧ _ ∧ _ ∧ _ ∧ _ ∧ _ := ⟨hk, hN, hz, hl, hnil, hB⟩
  clear _hu
  have c := r_neg (inP_mod x)
  have e : -(x % prm) % prm = (-x) % prm := neg_c (mod_d x)
  rw [e] at c
  clear e
  generalize (-x) % prm = u at *
  generalize hr : rd (x % prm) = r at *
  generalize ht : rd (y % prm) = t at *
  have hrI : (Tryd.prog.info? 30).map (·.size) = some r.size := hr ▸ rd_info _
  have htI : (Tryd.prog.info? 30).map (·.size) = some t.size := ht ▸ rd_info _
  clear hr ht
  have hc0 : ((((w.alloc (.cells oc 36)).alloc (.cells r 30)).alloc (.cells t 30)).alloc (.cells #[.int .u64 0, .int .u64 0, .int .u64 0, .int .u64 0, .int .u64 0, .int .u64 0, .int .u64 0, .int .u64 0, .int .u64 0, .int .u64 0, .int .u64 0, .int .u64 0, .int .u64 0, .int .u64 0, .int .u64 0, .int .u64 0] 30)).cell? ⟨w.heap.size, 0, none⟩ = some (.int .i64 4) := (cell_of_row _ _ _ _ _ _ (hp4_0 w _ _ _ _)).trans ho.c0
  have rp1 : ((((w.alloc (.cells oc 36)).alloc (.cells r 30)).alloc (.cells t 30)).alloc (.cells #[.int .u64 0, .int .u64 0, .int .u64 0, .int .u64 0, .int .u64 0, .int .u64 0, .int .u64 0, .int .u64 0, .int .u64 0, .int .u64 0, .int .u64 0, .int .u64 0, .int .u64 0, .int .u64 0, .int .u64 0, .int .u64 0] 30)).heap[w.heap.size + 1]? = some (.cells r 30 (0, 0)) := hp4_1 w _ _ _ _
  have rp2 : ((((w.alloc (.cells oc 36)).alloc (.cells r 30)).alloc (.cells t 30)).alloc (.cells #[.int .u64 0, .int .u64 0, .int .u64 0, .int .u64 0, .int .u64 0, .int .u64 0, .int .u64 0, .int .u64 0, .int .u64 0, .int .u64 0, .int .u64 0, .int .u64 0, .int .u64 0, .int .u64 0, .int .u64 0, .int .u64 0] 30)).heap[w.heap.size + 1 + 1]? = some (.cells t 30 (0, 0)) := hp4_2 w _ _ _ _
  have rp3 : ((((w.alloc (.cells oc 36)).alloc (.cells r 30)).alloc (.cells t 30)).alloc (.cells #[.int .u64 0, .int .u64 0, .int .u64 0, .int .u64 0, .int .u64 0, .int .u64 0, .int .u64 0, .int .u64 0, .int .u64 0, .int .u64 0, .int .u64 0, .int .u64 0, .int .u64 0, .int .u64 0, .int .u64 0, .int .u64 0] 30)).heap[w.heap.size + 1 + 1 + 1]? = some (.cells #[.int .u64 0, .int .u64 0, .int .u64 0, .int .u64 0, .int .u64 0, .int .u64 0, .int .u64 0, .int .u64 0, .int .u64 0, .int .u64 0, .int .u64 0, .int .u64 0, .int .u64 0, .int .u64 0, .int .u64 0, .int .u64 0] 30 (0, 0)) := hp4_3 w _ _ _ _
  have hw : Below w.heap.size w ((((w.alloc (.cells oc 36)).alloc (.cells r 30)).alloc (.cells t 30)).alloc (.cells #[.int .u64 0, .int .u64 0, .int .u64 0, .int .u64 0, .int .u64 0, .int .u64 0, .int .u64 0, .int .u64 0, .int .u64 0, .int .u64 0, .int .u64 0, .int .u64 0, .int .u64 0, .int .u64 0, .int .u64 0, .int .u64 0] 30)) := ((((Below.refl _ _).alloc (Nat.le_refl _) _).alloc (by simp) _).alloc (by simp; omega) _).alloc (by simp; omega) _
  clear hz hl ho hB hnil hN hk
  go_enter Tryd.func8, Tryd.ntmps8
  iterate 15 go_step
  generalize ((((w.alloc (.cells oc 36)).alloc (.cells r 30)).alloc (.cells t 30)).alloc (.cells #[.int .u64 0, .int .u64 0, .int .u64 0, .int .u64 0, .int .u64 0, .int .u64 0, .int .u64 0, .int .u64 0, .int .u64 0, .int .u64 0, .int .u64 0, .int .u64 0, .int .u64 0, .int .u64 0, .int .u64 0, .int .u64 0] 30)) = w0 at *
  go_wp2_with (first | (refine wpList_load_want rfl 30 _ rfl (w.heap.size + 1) rfl 30 r (0, 0) _ rp1 Tryd.underlying30 rfl hrI ?_) | (refine wpList_load_want rfl 30 _ rfl (w.heap.size + 1 + 1) rfl 30 t (0, 0) _ rp2 Tryd.underlying30 rfl htI ?_) | fail)
  refine (c.at _).mono ?_
  rintro e w1 ⟨rfl, hb⟩
  replace rp3 := keep hb rp3
  replace hw := Below.after hw hb
  have hn3 := lt_of_row rp3
  clear hb hc0 rp1 rp2
  go_wp2_with (first | (refine wpList_store_row rfl 30 _ _ rfl (w.heap.size + 1 + 1 + 1) (rd u) rfl rfl 30 _ rp3 (rd_info _) rfl (rd_one _) ?_) | fail)
  exact bodyPost_ret (v := .agg (rd u)) (results_cell_row Tryd.results8 _ _ (w.heap.size + 1 + 1 + 1) _ (rd u) _ _ rfl (setRow_heap _ _ _ _ _ _ rp3) Tryd.underlying30 rfl (rd_info _)) rfl ⟨rfl, below_setRow hw (by omega) _⟩
set_option maxRecDepth 100000 in
set_option maxHeartbeats 2000000 in
theorem refMade_5 {oc kp : Array Value} {x y N Nk T A B U : Int} {dv : Value} {F : Bool} {bs : List Int} (ho : OpOf oc 5 T A B N dv kp F U) (hk : KeyOf kp Nk) (hN : 0 ≤ N ∧ N < 18446744073709551616) (hz : ∀ z ∈ bs, 0 ≤ z ∧ z < 256) (hl : bs.length + 32 ≤ 281474976710656) (hnil : ∀ a l c, dv = .slice a l c → a = none → c = 0) (w : World) (hB : Bys w dv bs) : Calls Tryd.prog 8 #[.agg oc, .agg (rd (x % prm)), .agg (rd (y % prm))] w fun e w' => e = .returned (.agg (rd ((x * y) % prm))) ∧ Below w.heap.size w w' := by
  have _hu : _ ∧ _ ∧ _ ∧ _ ∧ _ ∧ _ := ⟨hk, hN, hz, hl, hnil, hB⟩
  clear _hu
  have c := r_mul (inP_mod x) (inP_mod y)
  have e : x % prm * (y % prm) % prm = (x * y) % prm := (Int.mul_emod x y prm).symm
  rw [e] at c
  clear e
  generalize (x * y) % prm = u at *
  generalize hr : rd (x % prm) = r at *
  generalize ht : rd (y % prm) = t at *
  have hrI : (Tryd.prog.info? 30).map (·.size) = some r.size := hr ▸ rd_info _
  have htI : (Tryd.prog.info? 30).map (·.size) = some t.size := ht ▸ rd_info _
  clear hr ht
  have hc0 : ((((w.alloc (.cells oc 36)).alloc (.cells r 30)).alloc (.cells t 30)).alloc (.cells #[.int .u64 0, .int .u64 0, .int .u64 0, .int .u64 0, .int .u64 0, .int .u64 0, .int .u64 0, .int .u64 0, .int .u64 0, .int .u64 0, .int .u64 0, .int .u64 0, .int .u64 0, .int .u64 0, .int .u64 0, .int .u64 0] 30)).cell? ⟨w.heap.size, 0, none⟩ = some (.int .i64 5) := (cell_of_row _ _ _ _ _ _ (hp4_0 w _ _ _ _)).trans ho.c0
  have rp1 : ((((w.alloc (.cells oc 36)).alloc (.cells r 30)).alloc (.cells t 30)).alloc (.cells #[.int .u64 0, .int .u64 0, .int .u64 0, .int .u64 0, .int .u64 0, .int .u64 0, .int .u64 0, .int .u64 0, .int .u64 0, .int .u64 0, .int .u64 0, .int .u64 0, .int .u64 0, .int .u64 0, .int .u64 0, .int .u64 0] 30)).heap[w.heap.size + 1]? = some (.cells r 30 (0, 0)) := hp4_1 w _ _ _ _
  have rp2 : ((((w.alloc (.cells oc 36)).alloc (.cells r 30)).alloc (.cells t 30)).alloc (.cells #[.int .u64 0, .int .u64 0, .int .u64 0, .int .u64 0, .int .u64 0, .int .u64 0, .int .u64 0, .int .u64 0, .int .u64 0, .int .u64 0, .int .u64 0, .int .u64 0, .int .u64 0, .int .u64 0, .int .u64 0, .int .u64 0] 30)).heap[w.heap.size + 1 + 1]? = some (.cells t 30 (0, 0)) := hp4_2 w _ _ _ _
  have rp3 : ((((w.alloc (.cells oc 36)).alloc (.cells r 30)).alloc (.cells t 30)).alloc (.cells #[.int .u64 0, .int .u64 0, .int .u64 0, .int .u64 0, .int .u64 0, .int .u64 0, .int .u64 0, .int .u64 0, .int .u64 0, .int .u64 0, .int .u64 0, .int .u64 0, .int .u64 0, .int .u64 0, .int .u64 0, .int .u64 0] 30)).heap[w.heap.size + 1 + 1 + 1]? = some (.cells #[.int .u64 0, .int .u64 0, .int .u64 0, .int .u64 0, .int .u64 0, .int .u64 0, .int .u64 0, .int .u64 0, .int .u64 0, .int .u64 0, .int .u64 0, .int .u64 0, .int .u64 0, .int .u64 0, .int .u64 0, .int .u64 0] 30 (0, 0)) := hp4_3 w _ _ _ _
  have hw : Below w.heap.size w ((((w.alloc (.cells oc 36)).alloc (.cells r 30)).alloc (.cells t 30)).alloc (.cells #[.int .u64 0, .int .u64 0, .int .u64 0, .int .u64 0, .int .u64 0, .int .u64 0, .int .u64 0, .int .u64 0, .int .u64 0, .int .u64 0, .int .u64 0, .int .u64 0, .int .u64 0, .int .u64 0, .int .u64 0, .int .u64 0] 30)) := ((((Below.refl _ _).alloc (Nat.le_refl _) _).alloc (by simp) _).alloc (by simp; omega) _).alloc (by simp; omega) _
  clear hz hl ho hB hnil hN hk
  go_enter Tryd.func8, Tryd.ntmps8
  iterate 15 go_step
  generalize ((((w.alloc (.cells oc 36)).alloc (.cells r 30)).alloc (.cells t 30)).alloc (.cells #[.int .u64 0, .int .u64 0, .int .u64 0, .int .u64 0, .int .u64 0, .int .u64 0, .int .u64 0, .int .u64 0, .int .u64 0, .int .u64 0, .int .u64 0, .int .u64 0, .int .u64 0, .int .u64 0, .int .u64 0, .int .u64 0] 30)) = w0 at *
  go_wp2_with (first | (refine wpList_load_want rfl 30 _ rfl (w.heap.size + 1) rfl 30 r (0, 0) _ rp1 Tryd.underlying30 rfl hrI ?_) | (refine wpList_load_want rfl 30 _ rfl (w.heap.size + 1 + 1) rfl 30 t (0, 0) _ rp2 Tryd.underlying30 rfl htI ?_) | fail)
  refine (c.at _).mono ?_
  rintro e w1 ⟨rfl, hb⟩
  replace rp3 := keep hb rp3
  replace hw := Below.after hw hb
  have hn3 := lt_of_row rp3
  clear hb hc0 rp1 rp2
  go_wp2_with (first | (refine wpList_store_row rfl 30 _ _ rfl (w.heap.size + 1 + 1 + 1) (rd u) rfl rfl 30 _ rp3 (rd_info _) rfl (rd_one _) ?_) | fail)
  exact bodyPost_ret (v := .agg (rd u)) (results_cell_row Tryd.results8 _ _ (w.heap.size + 1 + 1 + 1) _ (rd u) _ _ rfl (setRow_heap _ _ _ _ _ _ rp3) Tryd.underlying30 rfl (rd_info _)) rfl ⟨rfl, below_setRow hw (by omega) _⟩
set_option maxRecDepth 100000 in
set_option maxHeartbeats 2000000 in
theorem refMade_6 {oc kp : Array Value} {x y N Nk T A B U : Int} {dv : Value} {F : Bool} {bs : List Int} (ho : OpOf oc 6 T A B N dv kp F U) (hk : KeyOf kp Nk) (hN : 0 ≤ N ∧ N < 18446744073709551616) (hz : ∀ z ∈ bs, 0 ≤ z ∧ z < 256) (hl : bs.length + 32 ≤ 281474976710656) (hnil : ∀ a l c, dv = .slice a l c → a = none → c = 0) (w : World) (hB : Bys w dv bs) : Calls Tryd.prog 8 #[.agg oc, .agg (rd (x % prm)), .agg (rd (y % prm))] w fun e w' => e = .returned (.agg (rd ((x * x) % prm))) ∧ Below w.heap.size w w' := by
  have _hu : _ ∧ _ ∧ _ ∧ _ ∧ _ ∧ _ := ⟨hk, hN, hz, hl, hnil, hB⟩
  clear _hu
  have c := r_square (inP_mod x)
  have e : x % prm * (x % prm) % prm = (x * x) % prm := (Int.mul_emod x x prm).symm
  rw [e] at c
  clear e
  generalize (x * x) % prm = u at *
  generalize hr : rd (x % prm) = r at *
  generalize ht : rd (y % prm) = t at *
  have hrI : (Tryd.prog.info? 30).map (·.size) = some r.size := hr ▸ rd_info _
  have htI : (Tryd.prog.info? 30).map (·.size) = some t.size := ht ▸ rd_info _
  clear hr ht
  have hc0 : ((((w.alloc (.cells oc 36)).alloc (.cells r 30)).alloc (.cells t 30)).alloc (.cells #[.int .u64 0, .int .u64 0, .int .u64 0, .int .u64 0, .int .u64 0, .int .u64 0, .int .u64 0, .int .u64 0, .int .u64 0, .int .u64 0, .int .u64 0, .int .u64 0, .int .u64 0, .int .u64 0, .int .u64 0, .int .u64 0] 30)).cell? ⟨w.heap.size, 0, none⟩ = some (.int .i64 6) := (cell_of_row _ _ _ _ _ _ (hp4_0 w _ _ _ _)).trans ho.c0
  have rp1 : ((((w.alloc (.cells oc 36)).alloc (.cells r 30)).alloc (.cells t 30)).alloc (.cells #[.int .u64 0, .int .u64 0, .int .u64 0, .int .u64 0, .int .u64 0, .int .u64 0, .int .u64 0, .int .u64 0, .int .u64 0, .int .u64 0, .int .u64 0, .int .u64 0, .int .u64 0, .int .u64 0, .int .u64 0, .int .u64 0] 30)).heap[w.heap.size + 1]? = some (.cells r 30 (0, 0)) := hp4_1 w _ _ _ _
  have rp2 : ((((w.alloc (.cells oc 36)).alloc (.cells r 30)).alloc (.cells t 30)).alloc (.cells #[.int .u64 0, .int .u64 0, .int .u64 0, .int .u64 0, .int .u64 0, .int .u64 0, .int .u64 0, .int .u64 0, .int .u64 0, .int .u64 0, .int .u64 0, .int .u64 0, .int .u64 0, .int .u64 0, .int .u64 0, .int .u64 0] 30)).heap[w.heap.size + 1 + 1]? = some (.cells t 30 (0, 0)) := hp4_2 w _ _ _ _
  have rp3 : ((((w.alloc (.cells oc 36)).alloc (.cells r 30)).alloc (.cells t 30)).alloc (.cells #[.int .u64 0, .int .u64 0, .int .u64 0, .int .u64 0, .int .u64 0, .int .u64 0, .int .u64 0, .int .u64 0, .int .u64 0, .int .u64 0, .int .u64 0, .int .u64 0, .int .u64 0, .int .u64 0, .int .u64 0, .int .u64 0] 30)).heap[w.heap.size + 1 + 1 + 1]? = some (.cells #[.int .u64 0, .int .u64 0, .int .u64 0, .int .u64 0, .int .u64 0, .int .u64 0, .int .u64 0, .int .u64 0, .int .u64 0, .int .u64 0, .int .u64 0, .int .u64 0, .int .u64 0, .int .u64 0, .int .u64 0, .int .u64 0] 30 (0, 0)) := hp4_3 w _ _ _ _
  have hw : Below w.heap.size w ((((w.alloc (.cells oc 36)).alloc (.cells r 30)).alloc (.cells t 30)).alloc (.cells #[.int .u64 0, .int .u64 0, .int .u64 0, .int .u64 0, .int .u64 0, .int .u64 0, .int .u64 0, .int .u64 0, .int .u64 0, .int .u64 0, .int .u64 0, .int .u64 0, .int .u64 0, .int .u64 0, .int .u64 0, .int .u64 0] 30)) := ((((Below.refl _ _).alloc (Nat.le_refl _) _).alloc (by simp) _).alloc (by simp; omega) _).alloc (by simp; omega) _
  clear hz hl ho hB hnil hN hk
  go_enter Tryd.func8, Tryd.ntmps8
  iterate 15 go_step
  generalize ((((w.alloc (.cells oc 36)).alloc (.cells r 30)).alloc (.cells t 30)).alloc (.cells #[.int .u64 0, .int .u64 0, .int .u64 0, .int .u64 0, .int .u64 0, .int .u64 0, .int .u64 0, .int .u64 0, .int .u64 0, .int .u64 0, .int .u64 0, .int .u64 0, .int .u64 0, .int .u64 0, .int .u64 0, .int .u64 0] 30)) = w0 at *
  go_wp2_with (first | (refine wpList_load_want rfl 30 _ rfl (w.heap.size + 1) rfl 30 r (0, 0) _ rp1 Tryd.underlying30 rfl hrI ?_) | (refine wpList_load_want rfl 30 _ rfl (w.heap.size + 1 + 1) rfl 30 t (0, 0) _ rp2 Tryd.underlying30 rfl htI ?_) | fail)
  refine (c.at _).mono ?_
  rintro e w1 ⟨rfl, hb⟩
  replace rp3 := keep hb rp3
  replace hw := Below.after hw hb
  have hn3 := lt_of_row rp3
  clear hb hc0 rp1 rp2
  go_wp2_with (first | (refine wpList_store_row rfl 30 _ _ rfl (w.heap.size + 1 + 1 + 1) (rd u) rfl rfl 30 _ rp3 (rd_info _) rfl (rd_one _) ?_) | fail)
  exact bodyPost_ret (v := .agg (rd u)) (results_cell_row Tryd.results8 _ _ (w.heap.size + 1 + 1 + 1) _ (rd u) _ _ rfl (setRow_heap _ _ _ _ _ _ rp3) Tryd.underlying30 rfl (rd_info _)) rfl ⟨rfl, below_setRow hw (by omega) _⟩
set_option maxRecDepth 100000 in
set_option maxHeartbeats 2000000 in
theorem refMade_7 {oc kp : Array Value} {x y N Nk T A B U : Int} {dv : Value} {F : Bool} {bs : List Int} (ho : OpOf oc 7 T A B N dv kp F U) (hk : KeyOf kp Nk) (hN : 0 ≤ N ∧ N < 18446744073709551616) (hz : ∀ z ∈ bs, 0 ≤ z ∧ z < 256) (hl : bs.length + 32 ≤ 281474976710656) (hnil : ∀ a l c, dv = .slice a l c → a = none → c = 0) (w : World) (hB : Bys w dv bs) : Calls Tryd.prog 8 #[.agg oc, .agg (rd (x % prm)), .agg (rd (y % prm))] w fun e w' => e = .returned (.agg (rd ((x * (N % 4294967296)) % prm))) ∧ Below w.heap.size w w' := by
  have _hu : _ ∧ _ ∧ _ ∧ _ ∧ _ ∧ _ := ⟨hk, hN, hz, hl, hnil, hB⟩
  clear _hu
  have c := r_times (inP_mod x) (N % 4294967296) (by omega) (by omega)
  have e : x % prm * (N % 4294967296) % prm = (x * (N % 4294967296)) % prm := mul_c (mod_d x) rfl
  rw [e] at c
  clear e
  generalize (x * (N % 4294967296)) % prm = u at *
  generalize hr : rd (x % prm) = r at *
  generalize ht : rd (y % prm) = t at *
  have hrI : (Tryd.prog.info? 30).map (·.size) = some r.size := hr ▸ rd_info _
  have htI : (Tryd.prog.info? 30).map (·.size) = some t.size := ht ▸ rd_info _
  clear hr ht
  have hc0 : ((((w.alloc (.cells oc 36)).alloc (.cells r 30)).alloc (.cells t 30)).alloc (.cells #[.int .u64 0, .int .u64 0, .int .u64 0, .int .u64 0, .int .u64 0, .int .u64 0, .int .u64 0, .int .u64 0, .int .u64 0, .int .u64 0, .int .u64 0, .int .u64 0, .int .u64 0, .int .u64 0, .int .u64 0, .int .u64 0] 30)).cell? ⟨w.heap.size, 0, none⟩ = some (.int .i64 7) := (cell_of_row _ _ _ _ _ _ (hp4_0 w _ _ _ _)).trans ho.c0
  have hc4 : ((((w.alloc (.cells oc 36)).alloc (.cells r 30)).alloc (.cells t 30)).alloc (.cells #[.int .u64 0, .int .u64 0, .int .u64 0, .int .u64 0, .int .u64 0, .int .u64 0, .int .u64 0, .int .u64 0, .int .u64 0, .int .u64 0, .int .u64 0, .int .u64 0, .int .u64 0, .int .u64 0, .int .u64 0, .int .u64 0] 30)).cell? ⟨w.heap.size, 4, none⟩ = some (.int .u64 N) := (cell_of_row _ _ _ _ _ _ (hp4_0 w _ _ _ _)).trans ho.c4
  have rp1 : ((((w.alloc (.cells oc 36)).alloc (.cells r 30)).alloc (.cells t 30)).alloc (.cells #[.int .u64 0, .int .u64 0, .int .u64 0, .int .u64 0, .int .u64 0, .int .u64 0, .int .u64 0, .int .u64 0, .int .u64 0, .int .u64 0, .int .u64 0, .int .u64 0, .int .u64 0, .int .u64 0, .int .u64 0, .int .u64 0] 30)).heap[w.heap.size + 1]? = some (.cells r 30 (0, 0)) := hp4_1 w _ _ _ _
  have rp2 : ((((w.alloc (.cells oc 36)).alloc (.cells r 30)).alloc (.cells t 30)).alloc (.cells #[.int .u64 0, .int .u64 0, .int .u64 0, .int .u64 0, .int .u64 0, .int .u64 0, .int .u64 0, .int .u64 0, .int .u64 0, .int .u64 0, .int .u64 0, .int .u64 0, .int .u64 0, .int .u64 0, .int .u64 0, .int .u64 0] 30)).heap[w.heap.size + 1 + 1]? = some (.cells t 30 (0, 0)) := hp4_2 w _ _ _ _
  have rp3 : ((((w.alloc (.cells oc 36)).alloc (.cells r 30)).alloc (.cells t 30)).alloc (.cells #[.int .u64 0, .int .u64 0, .int .u64 0, .int .u64 0, .int .u64 0, .int .u64 0, .int .u64 0, .int .u64 0, .int .u64 0, .int .u64 0, .int .u64 0, .int .u64 0, .int .u64 0, .int .u64 0, .int .u64 0, .int .u64 0] 30)).heap[w.heap.size + 1 + 1 + 1]? = some (.cells #[.int .u64 0, .int .u64 0, .int .u64 0, .int .u64 0, .int .u64 0, .int .u64 0, .int .u64 0, .int .u64 0, .int .u64 0, .int .u64 0, .int .u64 0, .int .u64 0, .int .u64 0, .int .u64 0, .int .u64 0, .int .u64 0] 30 (0, 0)) := hp4_3 w _ _ _ _
  have hw : Below w.heap.size w ((((w.alloc (.cells oc 36)).alloc (.cells r 30)).alloc (.cells t 30)).alloc (.cells #[.int .u64 0, .int .u64 0, .int .u64 0, .int .u64 0, .int .u64 0, .int .u64 0, .int .u64 0, .int .u64 0, .int .u64 0, .int .u64 0, .int .u64 0, .int .u64 0, .int .u64 0, .int .u64 0, .int .u64 0, .int .u64 0] 30)) := ((((Below.refl _ _).alloc (Nat.le_refl _) _).alloc (by simp) _).alloc (by simp; omega) _).alloc (by simp; omega) _
  clear hz hl ho hB hnil hk
  go_enter Tryd.func8, Tryd.ntmps8
  iterate 15 go_step
  generalize ((((w.alloc (.cells oc 36)).alloc (.cells r 30)).alloc (.cells t 30)).alloc (.cells #[.int .u64 0, .int .u64 0, .int .u64 0, .int .u64 0, .int .u64 0, .int .u64 0, .int .u64 0, .int .u64 0, .int .u64 0, .int .u64 0, .int .u64 0, .int .u64 0, .int .u64 0, .int .u64 0, .int .u64 0, .int .u64 0] 30)) = w0 at *
  go_wp2_with (first | (refine wpList_load_want rfl 30 _ rfl (w.heap.size + 1) rfl 30 r (0, 0) _ rp1 Tryd.underlying30 rfl hrI ?_) | (refine wpList_load_want rfl 30 _ rfl (w.heap.size + 1 + 1) rfl 30 t (0, 0) _ rp2 Tryd.underlying30 rfl htI ?_) | fail)
  refine (c.at _).mono ?_
  rintro e w1 ⟨rfl, hb⟩
  replace rp3 := keep hb rp3
  replace hw := Below.after hw hb
  have hn3 := lt_of_row rp3
  clear hb hc0 rp1 rp2 hc4
  go_wp2_with (first | (refine wpList_store_row rfl 30 _ _ rfl (w.heap.size + 1 + 1 + 1) (rd u) rfl rfl 30 _ rp3 (rd_info _) rfl (rd_one _) ?_) | fail)
  exact bodyPost_ret (v := .agg (rd u)) (results_cell_row Tryd.results8 _ _ (w.heap.size + 1 + 1 + 1) _ (rd u) _ _ rfl (setRow_heap _ _ _ _ _ _ rp3) Tryd.underlying30 rfl (rd_info _)) rfl ⟨rfl, below_setRow hw (by omega) _⟩
set_option maxRecDepth 100000 in
set_option maxHeartbeats 2000000 in
theorem refMade_8 {oc kp : Array Value} {x y N Nk T A B U : Int} {dv : Value} {F : Bool} {bs : List Int} (ho : OpOf oc 8 T A B N dv kp F U) (hk : KeyOf kp Nk) (hN : 0 ≤ N ∧ N < 18446744073709551616) (hz : ∀ z ∈ bs, 0 ≤ z ∧ z < 256) (hl : bs.length + 32 ≤ 281474976710656) (hnil : ∀ a l c, dv = .slice a l c → a = none → c = 0) (w : World) (hB : Bys w dv bs) : Calls Tryd.prog 8 #[.agg oc, .agg (rd (x % prm)), .agg (rd (y % prm))] w fun e w' => e = .returned (.agg (rd ((x ^ bval bs) % prm))) ∧ Below w.heap.size w w' := by
  have _hu : _ ∧ _ ∧ _ ∧ _ ∧ _ ∧ _ := ⟨hk, hN, hz, hl, hnil, hB⟩
  clear _hu
  have c := r_power (inP_mod x) bs
  have e : (x % prm) ^ bval bs % prm = (x ^ bval bs) % prm := (int_pow_emod x (bval bs)).symm
  rw [e] at c
  clear e
  generalize (x ^ bval bs) % prm = u at *
  generalize hr : rd (x % prm) = r at *
  generalize ht : rd (y % prm) = t at *
  have hrI : (Tryd.prog.info? 30).map (·.size) = some r.size := hr ▸ rd_info _
  have htI : (Tryd.prog.info? 30).map (·.size) = some t.size := ht ▸ rd_info _
  clear hr ht
  have hc0 : ((((w.alloc (.cells oc 36)).alloc (.cells r 30)).alloc (.cells t 30)).alloc (.cells #[.int .u64 0, .int .u64 0, .int .u64 0, .int .u64 0, .int .u64 0, .int .u64 0, .int .u64 0, .int .u64 0, .int .u64 0, .int .u64 0, .int .u64 0, .int .u64 0, .int .u64 0, .int .u64 0, .int .u64 0, .int .u64 0] 30)).cell? ⟨w.heap.size, 0, none⟩ = some (.int .i64 8) := (cell_of_row _ _ _ _ _ _ (hp4_0 w _ _ _ _)).trans ho.c0
  have hc5 : ((((w.alloc (.cells oc 36)).alloc (.cells r 30)).alloc (.cells t 30)).alloc (.cells #[.int .u64 0, .int .u64 0, .int .u64 0, .int .u64 0, .int .u64 0, .int .u64 0, .int .u64 0, .int .u64 0, .int .u64 0, .int .u64 0, .int .u64 0, .int .u64 0, .int .u64 0, .int .u64 0, .int .u64 0, .int .u64 0] 30)).cell? ⟨w.heap.size, 5, none⟩ = some dv := (cell_of_row _ _ _ _ _ _ (hp4_0 w _ _ _ _)).trans ho.c5
  have rp1 : ((((w.alloc (.cells oc 36)).alloc (.cells r 30)).alloc (.cells t 30)).alloc (.cells #[.int .u64 0, .int .u64 0, .int .u64 0, .int .u64 0, .int .u64 0, .int .u64 0, .int .u64 0, .int .u64 0, .int .u64 0, .int .u64 0, .int .u64 0, .int .u64 0, .int .u64 0, .int .u64 0, .int .u64 0, .int .u64 0] 30)).heap[w.heap.size + 1]? = some (.cells r 30 (0, 0)) := hp4_1 w _ _ _ _
  have rp2 : ((((w.alloc (.cells oc 36)).alloc (.cells r 30)).alloc (.cells t 30)).alloc (.cells #[.int .u64 0, .int .u64 0, .int .u64 0, .int .u64 0, .int .u64 0, .int .u64 0, .int .u64 0, .int .u64 0, .int .u64 0, .int .u64 0, .int .u64 0, .int .u64 0, .int .u64 0, .int .u64 0, .int .u64 0, .int .u64 0] 30)).heap[w.heap.size + 1 + 1]? = some (.cells t 30 (0, 0)) := hp4_2 w _ _ _ _
  have rp3 : ((((w.alloc (.cells oc 36)).alloc (.cells r 30)).alloc (.cells t 30)).alloc (.cells #[.int .u64 0, .int .u64 0, .int .u64 0, .int .u64 0, .int .u64 0, .int .u64 0, .int .u64 0, .int .u64 0, .int .u64 0, .int .u64 0, .int .u64 0, .int .u64 0, .int .u64 0, .int .u64 0, .int .u64 0, .int .u64 0] 30)).heap[w.heap.size + 1 + 1 + 1]? = some (.cells #[.int .u64 0, .int .u64 0, .int .u64 0, .int .u64 0, .int .u64 0, .int .u64 0, .int .u64 0, .int .u64 0, .int .u64 0, .int .u64 0, .int .u64 0, .int .u64 0, .int .u64 0, .int .u64 0, .int .u64 0, .int .u64 0] 30 (0, 0)) := hp4_3 w _ _ _ _
  have hw : Below w.heap.size w ((((w.alloc (.cells oc 36)).alloc (.cells r 30)).alloc (.cells t 30)).alloc (.cells #[.int .u64 0, .int .u64 0, .int .u64 0, .int .u64 0, .int .u64 0, .int .u64 0, .int .u64 0, .int .u64 0, .int .u64 0, .int .u64 0, .int .u64 0, .int .u64 0, .int .u64 0, .int .u64 0, .int .u64 0, .int .u64 0] 30)) := ((((Below.refl _ _).alloc (Nat.le_refl _) _).alloc (by simp) _).alloc (by simp; omega) _).alloc (by simp; omega) _
  have hB' := hB.keep hw
  clear hz hl ho hB hnil hN hk
  go_enter Tryd.func8, Tryd.ntmps8
  iterate 15 go_step
  generalize ((((w.alloc (.cells oc 36)).alloc (.cells r 30)).alloc (.cells t 30)).alloc (.cells #[.int .u64 0, .int .u64 0, .int .u64 0, .int .u64 0, .int .u64 0, .int .u64 0, .int .u64 0, .int .u64 0, .int .u64 0, .int .u64 0, .int .u64 0, .int .u64 0, .int .u64 0, .int .u64 0, .int .u64 0, .int .u64 0] 30)) = w0 at *
  go_wp2_with (first | (refine wpList_load_want rfl 30 _ rfl (w.heap.size + 1) rfl 30 r (0, 0) _ rp1 Tryd.underlying30 rfl hrI ?_) | (refine wpList_load_want rfl 30 _ rfl (w.heap.size + 1 + 1) rfl 30 t (0, 0) _ rp2 Tryd.underlying30 rfl htI ?_) | fail)
  refine (c _ _ hB').mono ?_
  rintro e w1 ⟨rfl, hb⟩
  replace rp3 := keep hb rp3
  replace hw := Below.after hw hb
  have hn3 := lt_of_row rp3
  clear hb hc0 rp1 rp2 hc5 hB'
  go_wp2_with (first | (refine wpList_store_row rfl 30 _ _ rfl (w.heap.size + 1 + 1 + 1) (rd u) rfl rfl 30 _ rp3 (rd_info _) rfl (rd_one _) ?_) | fail)
  exact bodyPost_ret (v := .agg (rd u)) (results_cell_row Tryd.results8 _ _ (w.heap.size + 1 + 1 + 1) _ (rd u) _ _ rfl (setRow_heap _ _ _ _ _ _ rp3) Tryd.underlying30 rfl (rd_info _)) rfl ⟨rfl, below_setRow hw (by omega) _⟩
set_option maxRecDepth 100000 in
set_option maxHeartbeats 2000000 in
theorem refMade_9 {oc kp : Array Value} {x y N Nk T A B U : Int} {dv : Value} {F : Bool} {bs : List Int} (ho : OpOf oc 9 T A B N dv kp F U) (hk : KeyOf kp Nk) (hN : 0 ≤ N ∧ N < 18446744073709551616) (hz : ∀ z ∈ bs, 0 ≤ z ∧ z < 256) (hl : bs.length + 32 ≤ 281474976710656) (hnil : ∀ a l c, dv = .slice a l c → a = none → c = 0) (w : World) (hB : Bys w dv bs) : Calls Tryd.prog 8 #[.agg oc, .agg (rd (x % prm)), .agg (rd (y % prm))] w fun e w' => e = .returned (.agg (rd ((x ^ 57896044618658097711785492504343953926634992332820282019728792003956564819947) % prm))) ∧ Below w.heap.size w w' := by
  have _hu : _ ∧ _ ∧ _ ∧ _ ∧ _ ∧ _ := ⟨hk, hN, hz, hl, hnil, hB⟩
  clear _hu
  have c := r_invert (inP_mod x)
  have e : (x % prm) ^ 57896044618658097711785492504343953926634992332820282019728792003956564819947 % prm = (x ^ 57896044618658097711785492504343953926634992332820282019728792003956564819947) % prm := (int_pow_emod x 57896044618658097711785492504343953926634992332820282019728792003956564819947).symm
  rw [e] at c
  clear e
  generalize (x ^ 57896044618658097711785492504343953926634992332820282019728792003956564819947) % prm = u at *
  generalize hr : rd (x % prm) = r at *
  generalize ht : rd (y % prm) = t at *
  have hrI : (Tryd.prog.info? 30).map (·.size) = some r.size := hr ▸ rd_info _
  have htI : (Tryd.prog.info? 30).map (·.size) = some t.size := ht ▸ rd_info _
  clear hr ht
  have hc0 : ((((w.alloc (.cells oc 36)).alloc (.cells r 30)).alloc (.cells t 30)).alloc (.cells #[.int .u64 0, .int .u64 0, .int .u64 0, .int .u64 0, .int .u64 0, .int .u64 0, .int .u64 0, .int .u64 0, .int .u64 0, .int .u64 0, .int .u64 0, .int .u64 0, .int .u64 0, .int .u64 0, .int .u64 0, .int .u64 0] 30)).cell? ⟨w.heap.size, 0, none⟩ = some (.int .i64 9) := (cell_of_row _ _ _ _ _ _ (hp4_0 w _ _ _ _)).trans ho.c0
  have rp1 : ((((w.alloc (.cells oc 36)).alloc (.cells r 30)).alloc (.cells t 30)).alloc (.cells #[.int .u64 0, .int .u64 0, .int .u64 0, .int .u64 0, .int .u64 0, .int .u64 0, .int .u64 0, .int .u64 0, .int .u64 0, .int .u64 0, .int .u64 0, .int .u64 0, .int .u64 0, .int .u64 0, .int .u64 0, .int .u64 0] 30)).heap[w.heap.size + 1]? = some (.cells r 30 (0, 0)) := hp4_1 w _ _ _ _
  have rp2 : ((((w.alloc (.cells oc 36)).alloc (.cells r 30)).alloc (.cells t 30)).alloc (.cells #[.int .u64 0, .int .u64 0, .int .u64 0, .int .u64 0, .int .u64 0, .int .u64 0, .int .u64 0, .int .u64 0, .int .u64 0, .int .u64 0, .int .u64 0, .int .u64 0, .int .u64 0, .int .u64 0, .int .u64 0, .int .u64 0] 30)).heap[w.heap.size + 1 + 1]? = some (.cells t 30 (0, 0)) := hp4_2 w _ _ _ _
  have rp3 : ((((w.alloc (.cells oc 36)).alloc (.cells r 30)).alloc (.cells t 30)).alloc (.cells #[.int .u64 0, .int .u64 0, .int .u64 0, .int .u64 0, .int .u64 0, .int .u64 0, .int .u64 0, .int .u64 0, .int .u64 0, .int .u64 0, .int .u64 0, .int .u64 0, .int .u64 0, .int .u64 0, .int .u64 0, .int .u64 0] 30)).heap[w.heap.size + 1 + 1 + 1]? = some (.cells #[.int .u64 0, .int .u64 0, .int .u64 0, .int .u64 0, .int .u64 0, .int .u64 0, .int .u64 0, .int .u64 0, .int .u64 0, .int .u64 0, .int .u64 0, .int .u64 0, .int .u64 0, .int .u64 0, .int .u64 0, .int .u64 0] 30 (0, 0)) := hp4_3 w _ _ _ _
  have hw : Below w.heap.size w ((((w.alloc (.cells oc 36)).alloc (.cells r 30)).alloc (.cells t 30)).alloc (.cells #[.int .u64 0, .int .u64 0, .int .u64 0, .int .u64 0, .int .u64 0, .int .u64 0, .int .u64 0, .int .u64 0, .int .u64 0, .int .u64 0, .int .u64 0, .int .u64 0, .int .u64 0, .int .u64 0, .int .u64 0, .int .u64 0] 30)) := ((((Below.refl _ _).alloc (Nat.le_refl _) _).alloc (by simp) _).alloc (by simp; omega) _).alloc (by simp; omega) _
  clear hz hl ho hB hnil hN hk
  go_enter Tryd.func8, Tryd.ntmps8
  iterate 15 go_step
  generalize ((((w.alloc (.cells oc 36)).alloc (.cells r 30)).alloc (.cells t 30)).alloc (.cells #[.int .u64 0, .int .u64 0, .int .u64 0, .int .u64 0, .int .u64 0, .int .u64 0, .int .u64 0, .int .u64 0, .int .u64 0, .int .u64 0, .int .u64 0, .int .u64 0, .int .u64 0, .int .u64 0, .int .u64 0, .int .u64 0] 30)) = w0 at *
  go_wp2_with (first | (refine wpList_load_want rfl 30 _ rfl (w.heap.size + 1) rfl 30 r (0, 0) _ rp1 Tryd.underlying30 rfl hrI ?_) | (refine wpList_load_want rfl 30 _ rfl (w.heap.size + 1 + 1) rfl 30 t (0, 0) _ rp2 Tryd.underlying30 rfl htI ?_) | fail)
  refine (c.at _).mono ?_
  rintro e w1 ⟨rfl, hb⟩
  replace rp3 := keep hb rp3
  replace hw := Below.after hw hb
  have hn3 := lt_of_row rp3
  clear hb hc0 rp1 rp2
  go_wp2_with (first | (refine wpList_store_row rfl 30 _ _ rfl (w.heap.size + 1 + 1 + 1) (rd u) rfl rfl 30 _ rp3 (rd_info _) rfl (rd_one _) ?_) | fail)
  exact bodyPost_ret (v := .agg (rd u)) (results_cell_row Tryd.results8 _ _ (w.heap.size + 1 + 1 + 1) _ (rd u) _ _ rfl (setRow_heap _ _ _ _ _ _ rp3) Tryd.underlying30 rfl (rd_info _)) rfl ⟨rfl, below_setRow hw (by omega) _⟩
set_option maxRecDepth 100000 in
set_option maxHeartbeats 2000000 in
theorem refMade_10 {oc kp : Array Value} {x y N Nk T A B U : Int} {dv : Value} {F : Bool} {bs : List Int} (ho : OpOf oc 10 T A B N dv kp F U) (hk : KeyOf kp Nk) (hN : 0 ≤ N ∧ N < 18446744073709551616) (hz : ∀ z ∈ bs, 0 ≤ z ∧ z < 256) (hl : bs.length + 32 ≤ 281474976710656) (hnil : ∀ a l c, dv = .slice a l c → a = none → c = 0) (w : World) (hB : Bys w dv bs) : Calls Tryd.prog 8 #[.agg oc, .agg (rd (x % prm)), .agg (rd (y % prm))] w fun e w' => e = .returned (.agg (rd ((rval x) % prm))) ∧ Below w.heap.size w w' := by
  have _hu : _ ∧ _ ∧ _ ∧ _ ∧ _ ∧ _ := ⟨hk, hN, hz, hl, hnil, hB⟩
  clear _hu
  have c := r_root (inP_mod x)
  rw [rok_c (mod_d x), rval_c (mod_d x)] at c
  generalize rval x % prm = u at *
  generalize hr : rd (x % prm) = r at *
  generalize ht : rd (y % prm) = t at *
  have hrI : (Tryd.prog.info? 30).map (·.size) = some r.size := hr ▸ rd_info _
  have htI : (Tryd.prog.info? 30).map (·.size) = some t.size := ht ▸ rd_info _
  clear hr ht
  have hc0 : ((((w.alloc (.cells oc 36)).alloc (.cells r 30)).alloc (.cells t 30)).alloc (.cells #[.int .u64 0, .int .u64 0, .int .u64 0, .int .u64 0, .int .u64 0, .int .u64 0, .int .u64 0, .int .u64 0, .int .u64 0, .int .u64 0, .int .u64 0, .int .u64 0, .int .u64 0, .int .u64 0, .int .u64 0, .int .u64 0] 30)).cell? ⟨w.heap.size, 0, none⟩ = some (.int .i64 10) := (cell_of_row _ _ _ _ _ _ (hp4_0 w _ _ _ _)).trans ho.c0
  have rp1 : ((((w.alloc (.cells oc 36)).alloc (.cells r 30)).alloc (.cells t 30)).alloc (.cells #[.int .u64 0, .int .u64 0, .int .u64 0, .int .u64 0, .int .u64 0, .int .u64 0, .int .u64 0, .int .u64 0, .int .u64 0, .int .u64 0, .int .u64 0, .int .u64 0, .int .u64 0, .int .u64 0, .int .u64 0, .int .u64 0] 30)).heap[w.heap.size + 1]? = some (.cells r 30 (0, 0)) := hp4_1 w _ _ _ _
  have rp2 : ((((w.alloc (.cells oc 36)).alloc (.cells r 30)).alloc (.cells t 30)).alloc (.cells #[.int .u64 0, .int .u64 0, .int .u64 0, .int .u64 0, .int .u64 0, .int .u64 0, .int .u64 0, .int .u64 0, .int .u64 0, .int .u64 0, .int .u64 0, .int .u64 0, .int .u64 0, .int .u64 0, .int .u64 0, .int .u64 0] 30)).heap[w.heap.size + 1 + 1]? = some (.cells t 30 (0, 0)) := hp4_2 w _ _ _ _
  have rp3 : ((((w.alloc (.cells oc 36)).alloc (.cells r 30)).alloc (.cells t 30)).alloc (.cells #[.int .u64 0, .int .u64 0, .int .u64 0, .int .u64 0, .int .u64 0, .int .u64 0, .int .u64 0, .int .u64 0, .int .u64 0, .int .u64 0, .int .u64 0, .int .u64 0, .int .u64 0, .int .u64 0, .int .u64 0, .int .u64 0] 30)).heap[w.heap.size + 1 + 1 + 1]? = some (.cells #[.int .u64 0, .int .u64 0, .int .u64 0, .int .u64 0, .int .u64 0, .int .u64 0, .int .u64 0, .int .u64 0, .int .u64 0, .int .u64 0, .int .u64 0, .int .u64 0, .int .u64 0, .int .u64 0, .int .u64 0, .int .u64 0] 30 (0, 0)) := hp4_3 w _ _ _ _
  have hw : Below w.heap.size w ((((w.alloc (.cells oc 36)).alloc (.cells r 30)).alloc (.cells t 30)).alloc (.cells #[.int .u64 0, .int .u64 0, .int .u64 0, .int .u64 0, .int .u64 0, .int .u64 0, .int .u64 0, .int .u64 0, .int .u64 0, .int .u64 0, .int .u64 0, .int .u64 0, .int .u64 0, .int .u64 0, .int .u64 0, .int .u64 0] 30)) := ((((Below.refl _ _).alloc (Nat.le_refl _) _).alloc (by simp) _).alloc (by simp; omega) _).alloc (by simp; omega) _
  clear hz hl ho hB hnil hN hk
  go_enter Tryd.func8, Tryd.ntmps8
  iterate 15 go_step
  generalize ((((w.alloc (.cells oc 36)).alloc (.cells r 30)).alloc (.cells t 30)).alloc (.cells #[.int .u64 0, .int .u64 0, .int .u64 0, .int .u64 0, .int .u64 0, .int .u64 0, .int .u64 0, .int .u64 0, .int .u64 0, .int .u64 0, .int .u64 0, .int .u64 0, .int .u64 0, .int .u64 0, .int .u64 0, .int .u64 0] 30)) = w0 at *
  go_wp2_with (first | (refine wpList_load_want rfl 30 _ rfl (w.heap.size + 1) rfl 30 r (0, 0) _ rp1 Tryd.underlying30 rfl hrI ?_) | (refine wpList_load_want rfl 30 _ rfl (w.heap.size + 1 + 1) rfl 30 t (0, 0) _ rp2 Tryd.underlying30 rfl htI ?_) | fail)
  refine (c.at _).mono ?_
  rintro e w1 ⟨rfl, hb⟩
  replace rp3 := keep hb rp3
  replace hw := Below.after hw hb
  have hn3 := lt_of_row rp3
  clear hb hc0 rp1 rp2
  have rp3' : (w1.alloc (.cells (rd u) 30)).heap[w.heap.size + 1 + 1 + 1]? = some (.cells #[.int .u64 0, .int .u64 0, .int .u64 0, .int .u64 0, .int .u64 0, .int .u64 0, .int .u64 0, .int .u64 0, .int .u64 0, .int .u64 0, .int .u64 0, .int .u64 0, .int .u64 0, .int .u64 0, .int .u64 0, .int .u64 0] 30 (0, 0)) := keep ((Below.refl _ _).alloc (Nat.le_refl _) _) rp3
  have hw' : Below w.heap.size w (w1.alloc (.cells (rd u) 30)) := hw.alloc hw.size _
  go_wp2_with (first | (refine wpList_store_row rfl 30 _ _ rfl (w1.heap.size) (rd u) rfl rfl 30 #[.int .u64 0, .int .u64 0, .int .u64 0, .int .u64 0, .int .u64 0, .int .u64 0, .int .u64 0, .int .u64 0, .int .u64 0, .int .u64 0, .int .u64 0, .int .u64 0, .int .u64 0, .int .u64 0, .int .u64 0, .int .u64 0] (hp1_0 w1 _) (rd_info _) rfl (rd_one _) ?_; rw [setRow_alloc_new _ _ _ _ _ _ (by simp)]) | (refine wpList_load_want rfl 30 _ rfl (w1.heap.size) rfl 30 (rd u) (0, 0) _ (hp1_0 w1 _) Tryd.underlying30 rfl (rd_info _) ?_) | (refine wpList_store_row rfl 30 _ _ rfl (w.heap.size + 1 + 1 + 1) (rd u) rfl rfl 30 _ rp3' (rd_info _) rfl (rd_one _) ?_) | fail)
  exact bodyPost_ret (v := .agg (rd u)) (results_cell_row Tryd.results8 _ _ (w.heap.size + 1 + 1 + 1) _ (rd u) _ _ rfl (setRow_heap _ _ _ _ _ _ rp3') Tryd.underlying30 rfl (rd_info _)) rfl ⟨rfl, below_setRow hw' (by omega) _⟩
set_option maxRecDepth 100000 in
set_option maxHeartbeats 2000000 in
theorem refMade_o {oc kp : Array Value} {x y N Nk T A B U K : Int} {dv : Value} {F : Bool} {bs : List Int} (ho : OpOf oc K T A B N dv kp F U) (hK : ¬ (0 ≤ K ∧ K ≤ 10)) (hk : KeyOf kp Nk) (hN : 0 ≤ N ∧ N < 18446744073709551616) (hz : ∀ z ∈ bs, 0 ≤ z ∧ z < 256) (hl : bs.length + 32 ≤ 281474976710656) (hnil : ∀ a l c, dv = .slice a l c → a = none → c = 0) (w : World) (hB : Bys w dv bs) : Calls Tryd.prog 8 #[.agg oc, .agg (rd (x % prm)), .agg (rd (y % prm))] w fun e w' => e = .returned (.agg (rd (x % prm))) ∧ Below w.heap.size w w' := by
  have _hu : _ ∧ _ ∧ _ ∧ _ ∧ _ ∧ _ := ⟨hk, hN, hz, hl, hnil, hB⟩
  clear _hu
  generalize hr : rd (x % prm) = r at *
  generalize ht : rd (y % prm) = t at *
  have hrI : (Tryd.prog.info? 30).map (·.size) = some r.size := hr ▸ rd_info _
  have htI : (Tryd.prog.info? 30).map (·.size) = some t.size := ht ▸ rd_info _
  have hrS : r.size = 16 := hr ▸ rd_size _
  have hrO : r.all (·.oneCell') = true := hr ▸ rd_one _
  clear hr ht
  have hc0 : ((((w.alloc (.cells oc 36)).alloc (.cells r 30)).alloc (.cells t 30)).alloc (.cells #[.int .u64 0, .int .u64 0, .int .u64 0, .int .u64 0, .int .u64 0, .int .u64 0, .int .u64 0, .int .u64 0, .int .u64 0, .int .u64 0, .int .u64 0, .int .u64 0, .int .u64 0, .int .u64 0, .int .u64 0, .int .u64 0] 30)).cell? ⟨w.heap.size, 0, none⟩ = some (.int .i64 K) := (cell_of_row _ _ _ _ _ _ (hp4_0 w _ _ _ _)).trans ho.c0
  have rp1 : ((((w.alloc (.cells oc 36)).alloc (.cells r 30)).alloc (.cells t 30)).alloc (.cells #[.int .u64 0, .int .u64 0, .int .u64 0, .int .u64 0, .int .u64 0, .int .u64 0, .int .u64 0, .int .u64 0, .int .u64 0, .int .u64 0, .int .u64 0, .int .u64 0, .int .u64 0, .int .u64 0, .int .u64 0, .int .u64 0] 30)).heap[w.heap.size + 1]? = some (.cells r 30 (0, 0)) := hp4_1 w _ _ _ _
  have rp2 : ((((w.alloc (.cells oc 36)).alloc (.cells r 30)).alloc (.cells t 30)).alloc (.cells #[.int .u64 0, .int .u64 0, .int .u64 0, .int .u64 0, .int .u64 0, .int .u64 0, .int .u64 0, .int .u64 0, .int .u64 0, .int .u64 0, .int .u64 0, .int .u64 0, .int .u64 0, .int .u64 0, .int .u64 0, .int .u64 0] 30)).heap[w.heap.size + 1 + 1]? = some (.cells t 30 (0, 0)) := hp4_2 w _ _ _ _
  have d0 : (K == 0) = false := by rw [beq_eq_false_iff_ne]; omega
  have d1 : (K == 1) = false := by rw [beq_eq_false_iff_ne]; omega
  have d2 : (K == 2) = false := by rw [beq_eq_false_iff_ne]; omega
  have d3 : (K == 3) = false := by rw [beq_eq_false_iff_ne]; omega
  have d4 : (K == 4) = false := by rw [beq_eq_false_iff_ne]; omega
  have d5 : (K == 5) = false := by rw [beq_eq_false_iff_ne]; omega
  have d6 : (K == 6) = false := by rw [beq_eq_false_iff_ne]; omega
  have d7 : (K == 7) = false := by rw [beq_eq_false_iff_ne]; omega
  have d8 : (K == 8) = false := by rw [beq_eq_false_iff_ne]; omega
  have d9 : (K == 9) = false := by rw [beq_eq_false_iff_ne]; omega
  have d10 : (K == 10) = false := by rw [beq_eq_false_iff_ne]; omega
  have rp3 : ((((w.alloc (.cells oc 36)).alloc (.cells r 30)).alloc (.cells t 30)).alloc (.cells #[.int .u64 0, .int .u64 0, .int .u64 0, .int .u64 0, .int .u64 0, .int .u64 0, .int .u64 0, .int .u64 0, .int .u64 0, .int .u64 0, .int .u64 0, .int .u64 0, .int .u64 0, .int .u64 0, .int .u64 0, .int .u64 0] 30)).heap[w.heap.size + 1 + 1 + 1]? = some (.cells #[.int .u64 0, .int .u64 0, .int .u64 0, .int .u64 0, .int .u64 0, .int .u64 0, .int .u64 0, .int .u64 0, .int .u64 0, .int .u64 0, .int .u64 0, .int .u64 0, .int .u64 0, .int .u64 0, .int .u64 0, .int .u64 0] 30 (0, 0)) := hp4_3 w _ _ _ _
  have hw : Below w.heap.size w ((((w.alloc (.cells oc 36)).alloc (.cells r 30)).alloc (.cells t 30)).alloc (.cells #[.int .u64 0, .int .u64 0, .int .u64 0, .int .u64 0, .int .u64 0, .int .u64 0, .int .u64 0, .int .u64 0, .int .u64 0, .int .u64 0, .int .u64 0, .int .u64 0, .int .u64 0, .int .u64 0, .int .u64 0, .int .u64 0] 30)) := ((((Below.refl _ _).alloc (Nat.le_refl _) _).alloc (by simp) _).alloc (by simp; omega) _).alloc (by simp; omega) _
  clear hz hl ho hB hnil hN hk
  go_enter Tryd.func8, Tryd.ntmps8
  iterate 15 go_step
  generalize ((((w.alloc (.cells oc 36)).alloc (.cells r 30)).alloc (.cells t 30)).alloc (.cells #[.int .u64 0, .int .u64 0, .int .u64 0, .int .u64 0, .int .u64 0, .int .u64 0, .int .u64 0, .int .u64 0, .int .u64 0, .int .u64 0, .int .u64 0, .int .u64 0, .int .u64 0, .int .u64 0, .int .u64 0, .int .u64 0] 30)) = w0 at *
  go_wp2_with (first | (refine wpList_load_want rfl 30 _ rfl (w.heap.size + 1) rfl 30 r (0, 0) _ rp1 Tryd.underlying30 rfl hrI ?_) | (refine wpList_load_want rfl 30 _ rfl (w.heap.size + 1 + 1) rfl 30 t (0, 0) _ rp2 Tryd.underlying30 rfl htI ?_) | (refine wpList_store_row rfl 30 _ _ rfl (w.heap.size + 1 + 1 + 1) r rfl rfl 30 _ rp3 hrI hrS.symm hrO ?_) | fail)
  exact bodyPost_ret (v := .agg r) (results_cell_row Tryd.results8 _ _ (w.heap.size + 1 + 1 + 1) _ r _ _ rfl (setRow_heap _ _ _ _ _ _ rp3) Tryd.underlying30 rfl hrI) rfl ⟨rfl, below_setRow hw (by omega) _⟩
end Go.Proofs.YtnohfbpmckhbbaaDoor


namespace Go.Proofs.YtnohfbpmckhbbaaDoor
set_option maxRecDepth 100000
open Go Go.RowKit Go.Sort
/-- The places of registers. -/
def atv (i : Int) : Nat := (i % 4).toNat
theorem atv_lt (i : Int) : atv i < 4 := by unfold atv; omega
theorem tmod4 (i : Int) : i.tmod 4 = if 0 ≤ i then i % 4 else -(-i % 4) := by
  split
  · rename_i h; exact Int.tmod_eq_emod_of_nonneg h
  · rename_i h
    rw [show i = -(-i) by omega, Int.neg_tmod, Int.tmod_eq_emod_of_nonneg (by omega)]
    omega
theorem at_nn {i : Int} (h : 0 ≤ i.tmod 4) : i.tmod 4 = (atv i : Int) := by
  have ht := tmod4 i
  unfold atv
  generalize i.tmod 4 = q at *
  split at ht <;> omega
theorem at_ng {i : Int} (h : i.tmod 4 < 0) : wrap64 (i.tmod 4 + 4) = (atv i : Int) := by
  have ht := tmod4 i
  unfold atv
  generalize i.tmod 4 = q at *
  unfold wrap64
  split at ht <;> omega
theorem at_walk (i : Int) : Gives 4 #[.int .i64 i] (.int .i64 (atv i)) := by
  intro w
  have hn := @at_nn i
  have hg := @at_ng i
  generalize (atv i : Int) = v at *
  go_enter Tryd.func4, Tryd.ntmps4
  go_wp2
  · have h := hg (by assumption)
    go_ret
    rw [h]
    exact ⟨rfl, Below.refl _ _⟩
  · have h := hn (by assumption)
    go_ret
    rw [h]
    exact ⟨rfl, Below.refl _ _⟩
theorem a_made {oc r t kp : Array Value} {x y N Nk T A B U K : Int} {dv : Value} {F : Bool} {bs : List Int} (ho : OpOf oc K T A B N dv kp F U) (h : NumOf r x) (g : NumOf t y) (hk : KeyOf kp Nk) (hN : 0 ≤ N ∧ N < 18446744073709551616) (hz : ∀ z ∈ bs, 0 ≤ z ∧ z < 256) (hl : bs.length + 32 ≤ 281474976710656) (hnil : ∀ a l c, dv = .slice a l c → a = none → c = 0) :
    ∃ s, NumOf s (mv K x y N Nk (bval bs)) ∧ ∀ (w : World), Both w → Bys w dv bs → Calls Tryd.prog 7 #[.agg oc, .agg r, .agg t] w fun e w' => e = .returned (.tuple #[.agg s, .bool true]) ∧ Below w.heap.size w w' := by
  rcases (by omega : K = 0 ∨ K = 1 ∨ K = 2 ∨ K = 3 ∨ K = 4 ∨ K = 5 ∨ K = 6 ∨ K = 7 ∨ K = 8 ∨ K = 9 ∨ K = 10 ∨ ¬ (0 ≤ K ∧ K ≤ 10)) with rfl | rfl | rfl | rfl | rfl | rfl | rfl | rfl | rfl | rfl | rfl | hK
  · exact made_0 ho h g hk hN hz hl hnil
  · exact made_1 ho h g hk hN hz hl hnil
  · exact made_2 ho h g hk hN hz hl hnil
  · exact made_3 ho h g hk hN hz hl hnil
  · exact made_4 ho h g hk hN hz hl hnil
  · exact made_5 ho h g hk hN hz hl hnil
  · exact made_6 ho h g hk hN hz hl hnil
  · exact made_7 ho h g hk hN hz hl hnil
  · exact made_8 ho h g hk hN hz hl hnil
  · exact made_9 ho h g hk hN hz hl hnil
  · exact made_10 ho h g hk hN hz hl hnil
  · rw [mv_other hK]; exact made_o ho hK h g hk hN hz hl hnil
theorem r_made {oc kp : Array Value} {x y N Nk T A B U K : Int} {dv : Value} {F : Bool} {bs : List Int} (ho : OpOf oc K T A B N dv kp F U) (hk : KeyOf kp Nk) (hN : 0 ≤ N ∧ N < 18446744073709551616) (hz : ∀ z ∈ bs, 0 ≤ z ∧ z < 256) (hl : bs.length + 32 ≤ 281474976710656) (hnil : ∀ a l c, dv = .slice a l c → a = none → c = 0) (w : World) (hB : Bys w dv bs) :
    Calls Tryd.prog 8 #[.agg oc, .agg (rd (x % prm)), .agg (rd (y % prm))] w fun e w' => e = .returned (.agg (rd (mv K x y N Nk (bval bs) % prm))) ∧ Below w.heap.size w w' := by
  rcases (by omega : K = 0 ∨ K = 1 ∨ K = 2 ∨ K = 3 ∨ K = 4 ∨ K = 5 ∨ K = 6 ∨ K = 7 ∨ K = 8 ∨ K = 9 ∨ K = 10 ∨ ¬ (0 ≤ K ∧ K ≤ 10)) with rfl | rfl | rfl | rfl | rfl | rfl | rfl | rfl | rfl | rfl | rfl | hK
  · exact refMade_0 ho hk hN hz hl hnil w hB
  · exact refMade_1 ho hk hN hz hl hnil w hB
  · exact refMade_2 ho hk hN hz hl hnil w hB
  · exact refMade_3 ho hk hN hz hl hnil w hB
  · exact refMade_4 ho hk hN hz hl hnil w hB
  · exact refMade_5 ho hk hN hz hl hnil w hB
  · exact refMade_6 ho hk hN hz hl hnil w hB
  · exact refMade_7 ho hk hN hz hl hnil w hB
  · exact refMade_8 ho hk hN hz hl hnil w hB
  · exact refMade_9 ho hk hN hz hl hnil w hB
  · exact refMade_10 ho hk hN hz hl hnil w hB
  · rw [mv_other hK]; exact refMade_o ho hK hk hN hz hl hnil w hB

end Go.Proofs.YtnohfbpmckhbbaaDoor

namespace Go.Proofs.YtnohfbpmckhbbaaDoor
set_option maxRecDepth 100000
open Go.RowKit Go.Sort
attribute [local go_sem] setCell_drewN alloc_drewN


theorem low_bit (m : Int) : (byt m 0 % 2 == 1) = (dg m 0 % 2 == 1) := by
  have e : byt m 0 % 2 = dg m 0 % 2 := by simp only [byt, dg, Int.pow_zero, Int.ediv_one]; omega
  rw [e]
set_option maxHeartbeats 4000000 in
theorem a_asked {r s : Array Value} {m k : Int} (h : NumOf r m) (g : NumOf s k) (hm : inP m) (hk : inP k) : Gives 9 #[.agg r, .agg s, .agg (rd m), .agg (rd k)] (.bool true) := by
  have em := Int.emod_eq_of_lt hm.1 hm.2
  have ek := Int.emod_eq_of_lt hk.1 hk.2
  have cE := a_equal h g
  have rE := r_equal hm hk
  have cZ := a_isZero h
  have rZ := r_isZero hm
  have cO := a_odd h
  have rO := r_odd m
  have cB := a_bytes h
  have cC := a_bytes g
  have rB := r_bytes m
  have rC := r_bytes k
  rw [em, ek] at cE
  rw [em] at cZ cO cB
  rw [ek] at cC
  rw [low_bit] at cO
  have heq : ∀ (q : Int) W, (Op.equalIn 10000 34 (.agg (kb q)) (.agg (kb q))).run Tryd.prog W = .ok true W := fun q W => by
    have e : kb q = #[.int .u8 (byt q 0), .int .u8 (byt q 1), .int .u8 (byt q 2), .int .u8 (byt q 3), .int .u8 (byt q 4), .int .u8 (byt q 5), .int .u8 (byt q 6), .int .u8 (byt q 7), .int .u8 (byt q 8), .int .u8 (byt q 9), .int .u8 (byt q 10), .int .u8 (byt q 11), .int .u8 (byt q 12), .int .u8 (byt q 13), .int .u8 (byt q 14), .int .u8 (byt q 15), .int .u8 (byt q 16), .int .u8 (byt q 17), .int .u8 (byt q 18), .int .u8 (byt q 19), .int .u8 (byt q 20), .int .u8 (byt q 21), .int .u8 (byt q 22), .int .u8 (byt q 23), .int .u8 (byt q 24), .int .u8 (byt q 25), .int .u8 (byt q 26), .int .u8 (byt q 27), .int .u8 (byt q 28), .int .u8 (byt q 29), .int .u8 (byt q 30), .int .u8 (byt q 31)] := rfl
    rw [e, keys_equal]; simp
  clear em ek
  generalize decide (m = k) = e1 at *
  generalize decide (m = 0) = e2 at *
  generalize (dg m 0 % 2 == 1) = e3 at *
  intro w
  cases e1 <;> cases e2 <;> cases e3
  all_goals
    go_enter Tryd.func9, Tryd.ntmps9
    go_wp2
    have rp0 : ((((w.alloc (.cells r 26)).alloc (.cells s 26)).alloc (.cells (rd m) 30)).alloc (.cells (rd k) 30)).heap[w.heap.size]? = some (.cells r 26 (0, 0)) := hp4_0 w _ _ _ _
    have rp1 : ((((w.alloc (.cells r 26)).alloc (.cells s 26)).alloc (.cells (rd m) 30)).alloc (.cells (rd k) 30)).heap[w.heap.size + 1]? = some (.cells s 26 (0, 0)) := hp4_1 w _ _ _ _
    have rp2 : ((((w.alloc (.cells r 26)).alloc (.cells s 26)).alloc (.cells (rd m) 30)).alloc (.cells (rd k) 30)).heap[w.heap.size + 1 + 1]? = some (.cells (rd m) 30 (0, 0)) := hp4_2 w _ _ _ _
    have rp3 : ((((w.alloc (.cells r 26)).alloc (.cells s 26)).alloc (.cells (rd m) 30)).alloc (.cells (rd k) 30)).heap[w.heap.size + 1 + 1 + 1]? = some (.cells (rd k) 30 (0, 0)) := hp4_3 w _ _ _ _
    have hw : Below w.heap.size w ((((w.alloc (.cells r 26)).alloc (.cells s 26)).alloc (.cells (rd m) 30)).alloc (.cells (rd k) 30)) := (((((Below.refl _ _).alloc (Nat.le_refl _) _).alloc (by simp) _).alloc (by simp; omega) _).alloc (by simp; omega) _)
    generalize ((((w.alloc (.cells r 26)).alloc (.cells s 26)).alloc (.cells (rd m) 30)).alloc (.cells (rd k) 30)) = w0 at *
    have Hrp0 := keepr rp0
    have Hrp1 := keepr rp1
    have Hrp2 := keepr rp2
    have Hrp3 := keepr rp3
    refine wp_region_quiet_below (by kernel_rfl) (by kernel_rfl) ?_
    refine wpQuiet_load_row rfl 26 _ rfl (w.heap.size) rfl 26 r (0, 0) _ Hrp0.out Tryd.underlying26 rfl h.info ?_
    simp only [Act.put, List.setIfInBounds_toArray, List.set_cons_succ, List.set_cons_zero]
    refine wpQuiet_load_row rfl 26 _ rfl (w.heap.size + 1) rfl 26 s (0, 0) _ Hrp1.out Tryd.underlying26 rfl g.info ?_
    simp only [Act.put, List.setIfInBounds_toArray, List.set_cons_succ, List.set_cons_zero]
    go_big_quiet_step (exact cE.re)
    refine wpQuiet_load_row rfl 30 _ rfl (w.heap.size + 1 + 1) rfl 30 (rd m) (0, 0) _ Hrp2.out Tryd.underlying30 rfl (rd_info m) ?_
    simp only [Act.put, List.setIfInBounds_toArray, List.set_cons_succ, List.set_cons_zero]
    refine wpQuiet_load_row rfl 30 _ rfl (w.heap.size + 1 + 1 + 1) rfl 30 (rd k) (0, 0) _ Hrp3.out Tryd.underlying30 rfl (rd_info k) ?_
    simp only [Act.put, List.setIfInBounds_toArray, List.set_cons_succ, List.set_cons_zero]
    go_big_quiet_step (exact rE.re)
    go_big_quiet_step (fail)
    go_big_quiet_step (fail)
    refine wpQuiet_load_want rfl 26 _ rfl (w.heap.size) rfl 26 r (0, 0) _ Hrp0.out Tryd.underlying26 rfl h.info ?_
    simp only [Act.put, List.setIfInBounds_toArray, List.set_cons_succ, List.set_cons_zero]
    go_big_quiet_step (exact cZ.re)
    refine wpQuiet_load_want rfl 30 _ rfl (w.heap.size + 1 + 1) rfl 30 (rd m) (0, 0) _ Hrp2.out Tryd.underlying30 rfl (rd_info m) ?_
    simp only [Act.put, List.setIfInBounds_toArray, List.set_cons_succ, List.set_cons_zero]
    go_big_quiet_step (exact rZ.re)
    go_big_quiet_step (fail)
    go_big_quiet_step (fail)
    go_big_quiet_step (fail)
    refine wpQuiet_load_want rfl 26 _ rfl (w.heap.size) rfl 26 r (0, 0) _ Hrp0.out Tryd.underlying26 rfl h.info ?_
    simp only [Act.put, List.setIfInBounds_toArray, List.set_cons_succ, List.set_cons_zero]
    go_big_quiet_step (exact cO.re)
    refine wpQuiet_load_want rfl 30 _ rfl (w.heap.size + 1 + 1) rfl 30 (rd m) (0, 0) _ Hrp2.out Tryd.underlying30 rfl (rd_info m) ?_
    simp only [Act.put, List.setIfInBounds_toArray, List.set_cons_succ, List.set_cons_zero]
    go_big_quiet_step (exact rO.re)
    go_big_quiet_step (fail)
    go_big_quiet_step (fail)
    refine wpQuiet_nil ?_
    rintro _ ⟨p, rfl⟩
    have hb := below_regrown w0 p.d p.os
    generalize grow (redrawn w0 p.d) p.os = w1 at *
    replace rp0 := keep hb rp0
    replace rp1 := keep hb rp1
    replace rp2 := keep hb rp2
    replace rp3 := keep hb rp3
    replace hw := Below.after hw hb
    clear hb
    clear Hrp0 Hrp1 Hrp2 Hrp3
    go_wp2
    have Hrp0 := keepr rp0
    have Hrp1 := keepr rp1
    have Hrp2 := keepr rp2
    have Hrp3 := keepr rp3
    refine wp_region_quiet_below (by kernel_rfl) (by kernel_rfl) ?_
    refine wpQuiet_load_row rfl 26 _ rfl (w.heap.size) rfl 26 r (0, 0) _ Hrp0.out Tryd.underlying26 rfl h.info ?_
    simp only [Act.put, List.setIfInBounds_toArray, List.set_cons_succ, List.set_cons_zero]
    go_big_quiet_step (exact cB.re)
    refine wpQuiet_load_row rfl 30 _ rfl (w.heap.size + 1 + 1) rfl 30 (rd m) (0, 0) _ Hrp2.out Tryd.underlying30 rfl (rd_info m) ?_
    simp only [Act.put, List.setIfInBounds_toArray, List.set_cons_succ, List.set_cons_zero]
    go_big_quiet_step (exact rB.re)
    go_big_quiet_step (fail)
    go_big_quiet_step (fail)
    refine wpQuiet_load_want rfl 26 _ rfl (w.heap.size + 1) rfl 26 s (0, 0) _ Hrp1.out Tryd.underlying26 rfl g.info ?_
    simp only [Act.put, List.setIfInBounds_toArray, List.set_cons_succ, List.set_cons_zero]
    go_big_quiet_step (exact cC.re)
    refine wpQuiet_load_want rfl 30 _ rfl (w.heap.size + 1 + 1 + 1) rfl 30 (rd k) (0, 0) _ Hrp3.out Tryd.underlying30 rfl (rd_info k) ?_
    simp only [Act.put, List.setIfInBounds_toArray, List.set_cons_succ, List.set_cons_zero]
    go_big_quiet_step (exact rC.re)
    go_big_quiet_step (fail)
    go_big_quiet_step (fail)
    go_big_quiet_step (fail)
    refine wpQuiet_nil ?_
    rintro _ ⟨p, rfl⟩
    have hb := below_regrown w1 p.d p.os
    generalize grow (redrawn w1 p.d) p.os = w8 at *
    replace rp0 := keep hb rp0
    replace rp1 := keep hb rp1
    replace rp2 := keep hb rp2
    replace rp3 := keep hb rp3
    replace hw := Below.after hw hb
    clear hb
    clear Hrp0 Hrp1 Hrp2 Hrp3
    go_wp2
    go_ret
    exact ⟨rfl, hw⟩

end Go.Proofs.YtnohfbpmckhbbaaDoor


namespace Go.Proofs.YtnohfbpmckhbbaaDoor
set_option maxRecDepth 100000
open Go Go.RowKit Go.Sort
/-! Registers: rows of one size, one behind the other in one block. -/
def flat (rs : List (Array Value)) : Array Value := (rs.map Array.toList).flatten.toArray
theorem flat_len {n : Nat} : ∀ {rs : List (Array Value)}, (∀ x ∈ rs, x.size = n) → (rs.map Array.toList).flatten.length = n * rs.length
  | [], _ => by simp
  | y :: ys, h => by
    have h1 := flat_len (rs := ys) (fun x hx => h x (List.mem_cons_of_mem _ hx))
    have h2 := h y List.mem_cons_self
    simp only [List.map_cons, List.flatten_cons, List.length_append, Array.length_toList, List.length_cons, Nat.mul_add, Nat.mul_one]
    omega
theorem flat_size {n : Nat} {rs : List (Array Value)} (h : ∀ x ∈ rs, x.size = n) : (flat rs).size = n * rs.length := by
  unfold flat
  rw [List.size_toArray]
  exact flat_len h
theorem flat_at {n : Nat} : ∀ {rs : List (Array Value)} {a : Nat} {x : Array Value}, (∀ y ∈ rs, y.size = n) → rs[a]? = some x → ((rs.map Array.toList).flatten.drop (n * a)).take n = x.toList
  | [], a, x, _, hx => by simp at hx
  | y :: ys, 0, x, h, hx => by
    have h2 := h y List.mem_cons_self
    obtain rfl : y = x := by simpa using hx
    simp only [List.map_cons, List.flatten_cons, Nat.mul_zero, List.drop_zero]
    rw [List.take_append, List.take_of_length_le (by rw [Array.length_toList]; omega), show n - y.toList.length = 0 by rw [Array.length_toList]; omega, List.take_zero, List.append_nil]
  | y :: ys, a + 1, x, h, hx => by
    have h2 := h y List.mem_cons_self
    have hx' : ys[a]? = some x := by simpa using hx
    have ih := flat_at (rs := ys) (fun x hx => h x (List.mem_cons_of_mem _ hx)) hx'
    simp only [List.map_cons, List.flatten_cons]
    rw [List.drop_append, List.drop_of_length_le (by rw [Array.length_toList, Nat.mul_add]; omega), List.nil_append, show n * (a + 1) - y.toList.length = n * a by rw [Array.length_toList, h2, Nat.mul_add]; omega]
    exact ih
theorem flat_part {n : Nat} {rs : List (Array Value)} {a : Nat} {x : Array Value} (h : ∀ y ∈ rs, y.size = n) (hx : rs[a]? = some x) : (flat rs).extract (n * a) (n * a + x.size) = x := by
  have hn : x.size = n := h x (List.mem_of_getElem? hx)
  apply Array.ext'
  rw [flat, Array.toList_extract, List.extract_eq_take_drop, show n * a + x.size - n * a = n by omega]
  exact flat_at h hx
def setL (cs : Array Value) : Nat → List Value → Array Value
  | _, [] => cs
  | o, v :: r => setL (cs.setIfInBounds o v) (o + 1) r
theorem heap_setCells (g : Nat) (t : TypeId) : ∀ (vs : List Value) (o : Nat) (w : World) (cs : Array Value), w.heap[g]? = some (.cells cs t (0, 0)) → (w.setCells g o vs).heap[g]? = some (.cells (setL cs o vs) t (0, 0))
  | [], _, _, _, h => h
  | v :: r, o, w, cs, h => heap_setCells g t r (o + 1) _ _ (heap_setCell_same w g o cs t v h)
theorem heap_setCells_else {g k : Nat} (hk : k ≠ g) : ∀ (vs : List Value) (o : Nat) (w : World), (w.setCells g o vs).heap[k]? = w.heap[k]?
  | [], _, _ => rfl
  | v :: r, o, w => (heap_setCells_else hk r (o + 1) _).trans (heap_setCell_other w _ k v hk)
theorem below_setCells5 {n g : Nat} {w0 : World} (hg : n ≤ g) : ∀ (vs : List Value) (o : Nat) (w : World), Below n w0 w → Below n w0 (w.setCells g o vs)
  | [], _, _, h => h
  | v :: r, o, _, h => below_setCells5 hg r (o + 1) _ (h.setCell hg v)
theorem setL_list : ∀ (vs : List Value) (A B C : List Value), B.length = vs.length → setL (A ++ (B ++ C)).toArray A.length vs = (A ++ (vs ++ C)).toArray
  | [], A, B, C, h => by
    obtain rfl : B = [] := List.length_eq_zero_iff.1 h
    rfl
  | v :: r, A, [], C, h => by simp at h
  | v :: r, A, b :: B, C, h => by
    have ih := setL_list r (A ++ [v]) B C (by simpa using h)
    rw [setL, List.setIfInBounds_toArray, List.set_append_right _ _ (Nat.le_refl _), Nat.sub_self, List.cons_append, List.set_cons_zero]
    simpa using ih
theorem flat_split {rs : List (Array Value)} {a : Nat} {y : Array Value} (hy : rs[a]? = some y) : rs = rs.take a ++ y :: rs.drop (a + 1) := by
  obtain ⟨h, e⟩ := List.getElem?_eq_some_iff.1 hy
  have := List.drop_eq_getElem_cons h
  rw [e] at this
  rw [← this, List.take_append_drop]
theorem flat_app (l m : List (Array Value)) (y : Array Value) : flat (l ++ y :: m) = ((l.map Array.toList).flatten ++ (y.toList ++ (m.map Array.toList).flatten)).toArray := by
  unfold flat
  rw [List.map_append, List.flatten_append, List.map_cons, List.flatten_cons]
theorem flat_set {n : Nat} {rs : List (Array Value)} {a : Nat} {x : Array Value} (h : ∀ y ∈ rs, y.size = n) (ha : a < rs.length) (hx : x.size = n) : setL (flat rs) (n * a) x.toList = flat (rs.set a x) := by
  have hy : rs[a]? = some rs[a] := List.getElem?_eq_getElem ha
  have hs := flat_split hy
  have hl : ((rs.take a).map Array.toList).flatten.length = n * a := by
    rw [flat_len (n := n) (fun z hz => h z (List.mem_of_mem_take hz)), List.length_take, Nat.min_eq_left (by omega)]
  have hn : rs[a].size = n := h _ (List.getElem_mem ha)
  rw [List.set_eq_take_append_cons_drop, if_pos ha, flat_app]
  conv => lhs; arg 1; rw [hs, flat_app]
  rw [← hl]
  exact setL_list _ _ _ _ (by rw [Array.length_toList, Array.length_toList, hn, hx])
theorem set_size {n : Nat} {rs : List (Array Value)} {a : Nat} {x : Array Value} (h : ∀ y ∈ rs, y.size = n) (hx : x.size = n) : ∀ y ∈ rs.set a x, y.size = n := by
  intro y hy
  rcases List.mem_or_eq_of_mem_set hy with h1 | rfl
  · exact h y h1
  · exact hx
/-- A part of a block is there to be stored into. -/
theorem there_of_row {W : World} {g : Nat} {cs : Array Value} {t : TypeId} (h : W.heap[g]? = some (.cells cs t (0, 0))) {o n : Nat} (hn : o + n ≤ cs.size) : W.there g o n := by
  intro j hj
  constructor
  · rw [cell_of_row _ _ _ _ _ _ h]
    simp; omega
  · simp [World.frozen?, h]
end Go.Proofs.YtnohfbpmckhbbaaDoor

namespace Go.Proofs.YtnohfbpmckhbbaaDoor
set_option maxRecDepth 100000
open Go Go.RowKit Go.Sort
/-! FieldAll: the steps as they lie, and the registers. -/
def Stp (W : World) (v : Value) (n : Nat) : Prop := ∃ ao cap, v = .slice ao n cap ∧ n ≤ 9223372036854775807 ∧ ∀ i, i < n → ∃ b off cs, ao = some ⟨b, off, none⟩ ∧ b < W.heap.size ∧ W.rangeAt b (off + i * 40) cs ∧ StepOf W cs.toArray
theorem StepOf.keep {W W' : World} {oc : Array Value} (h : StepOf W oc) (hb : Below W.heap.size W W') : StepOf W' oc := by
  obtain ⟨K, T, A, B, N, dv, kp, F, U, Nk, bs, h1, h2, h3, h4, h5, h6, h7⟩ := h
  exact ⟨K, T, A, B, N, dv, kp, F, U, Nk, bs, h1, h2, h3, h4, h5, h6.keep hb, h7⟩
theorem range_keep {W W' : World} {b o : Nat} {cs : List Value} (h : W.rangeAt b o cs) (hl : b < W.heap.size) (hb : Below W.heap.size W W') : W'.rangeAt b o cs := fun j v hv => by
  exact (hb.cell hl).trans (h j v hv)
theorem Stp.keep {W W' : World} {v : Value} {n : Nat} (h : Stp W v n) (hb : Below W.heap.size W W') : Stp W' v n := by
  obtain ⟨ao, cap, rfl, hn, h⟩ := h
  refine ⟨ao, cap, rfl, hn, fun i hi => ?_⟩
  obtain ⟨b, off, cs, h1, h2, h3, h4⟩ := h i hi
  exact ⟨b, off, cs, h1, Nat.lt_of_lt_of_le h2 hb.size, range_keep h3 h2 hb, h4.keep hb⟩
def dcs (xs : List Int) : List (Array Value) := xs.map fun x => rd (x % prm)
theorem dcs_size (xs : List Int) : ∀ y ∈ dcs xs, y.size = 16 := by
  intro y hy
  obtain ⟨x, _, rfl⟩ := List.mem_map.1 hy
  exact rd_size _
theorem dcs_set (xs : List Int) (a : Nat) (x : Int) : dcs (xs.set a x) = (dcs xs).set a (rd (x % prm)) := by
  unfold dcs; rw [List.map_set]
/-- The registers: four numbers of the program, and the document's beside them. -/
structure Regs (W : World) (gr gd : Nat) (rs : List (Array Value)) (xs : List Int) : Prop where
  hr : W.heap[gr]? = some (.cells (flat rs) 27 (0, 0))
  hd : W.heap[gd]? = some (.cells (flat (dcs xs)) 31 (0, 0))
  lr : rs.length = 4
  lx : xs.length = 4
  hn : ∀ i, i < 4 → ∃ r x, rs[i]? = some r ∧ xs[i]? = some x ∧ NumOf r x
  sr : ∀ y ∈ rs, y.size = 5
theorem Regs.keep {W W' : World} {gr gd : Nat} {rs : List (Array Value)} {xs : List Int} (h : Regs W gr gd rs xs) (hb : Below W.heap.size W W') : Regs W' gr gd rs xs :=
  ⟨Go.Proofs.YtnohfbpmckhbbaaDoor.keep hb h.hr, Go.Proofs.YtnohfbpmckhbbaaDoor.keep hb h.hd, h.lr, h.lx, h.hn, h.sr⟩
theorem Regs.get {W : World} {gr gd : Nat} {rs : List (Array Value)} {xs : List Int} (h : Regs W gr gd rs xs) {i : Nat} (hi : i < 4) : ∃ r x, NumOf r x ∧ (flat rs).extract (5 * i) (5 * i + r.size) = r ∧ (flat (dcs xs)).extract (16 * i) (16 * i + (rd (x % prm)).size) = rd (x % prm) ∧ rs[i]? = some r ∧ xs[i]? = some x := by
  obtain ⟨r, x, h1, h2, h3⟩ := h.hn i hi
  refine ⟨r, x, h3, flat_part h.sr h1, flat_part (dcs_size xs) ?_, h1, h2⟩
  unfold dcs
  rw [List.getElem?_map, h2]; rfl
theorem set_hn {rs : List (Array Value)} {xs : List Int} {a : Nat} {r : Array Value} {x : Int} (lr : rs.length = 4) (lx : xs.length = 4) (hx : NumOf r x) (h : ∀ i, i < 4 → ∃ r x, rs[i]? = some r ∧ xs[i]? = some x ∧ NumOf r x) : ∀ i, i < 4 → ∃ r' x', (rs.set a r)[i]? = some r' ∧ (xs.set a x)[i]? = some x' ∧ NumOf r' x' := by
  intro i hi
  by_cases e : a = i
  · subst e
    exact ⟨r, x, by rw [List.getElem?_set_self (by omega)], by rw [List.getElem?_set_self (by omega)], hx⟩
  · rw [List.getElem?_set_ne e, List.getElem?_set_ne e]
    exact h i hi
/-- Both registers at a place are stored into, one behind the other. -/
theorem Regs.set {W : World} {gr gd : Nat} {rs : List (Array Value)} {xs : List Int} (h : Regs W gr gd rs xs) (hne : gr ≠ gd) {a : Nat} (ha : a < 4) {r : Array Value} {x : Int} (hx : NumOf r x) : Regs ((W.setCells gr (5 * a) r.toList).setCells gd (16 * a) (rd (x % prm)).toList) gr gd (rs.set a r) (xs.set a x) := by
  refine ⟨?_, ?_, by rw [List.length_set]; exact h.lr, by rw [List.length_set]; exact h.lx, set_hn h.lr h.lx hx h.hn, set_size h.sr hx.size⟩
  · rw [heap_setCells_else hne, ← flat_set h.sr (by rw [h.lr]; exact ha) hx.size]
    exact heap_setCells _ _ _ _ _ _ h.hr
  · rw [dcs_set, ← flat_set (dcs_size xs) (by unfold dcs; rw [List.length_map, h.lx]; exact ha) (rd_size _)]
    exact heap_setCells _ _ _ _ _ _ ((heap_setCells_else (Ne.symm hne) _ _ _).trans h.hd)
end Go.Proofs.YtnohfbpmckhbbaaDoor

namespace Go.Proofs.YtnohfbpmckhbbaaDoor
set_option maxRecDepth 100000
open Go Go.RowKit
/-! A region that draws its order, whose last operation waits for all others: every order of the others, then that one. The others may store. -/
/-- What is to hold ahead of the last operation. -/
def Ahead (P : Program) (L : List Oper) (o : Oper) (Q : Exit → Act → World → Prop) : Exit → Act → World → Prop
  | .normal, a, w => wpList P L.toArray Q [o] a w
  | e, a, w => Q e a w
section
variable {P : Program} {L : List Oper} {m : Nat} {o : Oper} {Q : Exit → Act → World → Prop}
theorem ahead_out (h : LetsOut (Ahead P L o Q)) : LetsOut Q := by
  obtain ⟨a, w, h⟩ := h
  exact ⟨a, w, h⟩
theorem ahead_wp {x : Oper} {a : Act} {w : World} {K : Act → World → Prop} (hh : x.wp P a w K (Ahead P L o Q)) : x.wp P a w K Q := by
  unfold Oper.wp at *
  generalize (execOp a.eval x).run P w = r at *
  cases r with
  | ok n w' =>
    cases n <;> simp only [Oper.upon] at hh ⊢ <;>
      first
        | exact hh
        | exact Calls.mono hh (fun e w'' he => by cases e <;> first | exact he | exact ahead_out he)
  | halt x w' => cases x <;> simp only [Oper.upon] at hh ⊢ <;> exact hh
theorem wpAny_of_last (h : L[m]? = some o) (hd : o.dst = none) (hg : o.guard = none) (hl : lastB L m = true) (hO : ordB L = true) :
    ∀ (fuel : Nat) (listed : Array Bool) (a : Act) (w : World), listed.size = L.length → Closed L listed → listed.getD m true = false →
      wpAny P .any (L.set m (idle o)).toArray (Ahead P L o Q) fuel listed a w → wpAny P .any L.toArray Q fuel listed a w := by
  have hml : m < L.length := (List.getElem?_eq_some_iff.1 h).1
  have hnil : ∀ listed : Array Bool, Region.ready .any (L.set m (idle o)).toArray listed = [] ↔ Region.ready .any L.toArray listed = [] := by
    intro listed
    rw [List.eq_nil_iff_forall_not_mem, List.eq_nil_iff_forall_not_mem]
    exact forall_congr' fun i => not_congr (mem_ready_idle h)
  intro fuel
  induction fuel with
  | zero =>
    intro listed a w hs _ hun H
    exact absurd ((hnil _).1 H.1) (ready_some hO hs m hml hun)
  | succ fuel ih =>
    intro listed a w hs hc hun H
    refine ⟨fun h0 => absurd h0 (ready_some hO hs m hml hun), fun i hi => ?_⟩
    have hq := H.2 i ((mem_ready_idle h).2 hi)
    by_cases e : m = i
    · subst e
      have hn := ready_none hO hl hc hi
      unfold wpOp at hq
      rw [idle_at h, if_pos rfl] at hq
      have hwant : Region.wanted (idle o) (yielded (L.set m (idle o)).toArray a.tmps) = true := by simp [Region.wanted, idle, hg]
      simp only [hwant, if_true] at hq
      have hrun : (execOp a.eval (idle o)).run P w = .ok (.value undef) w := by simp [idle, execOp, Act.eval]
      have hK : wpAny P .any (L.set m (idle o)).toArray (Ahead P L o Q) fuel (listed.setIfInBounds m true) a w := by
        rcases hq with hq | hq
        · unfold Oper.wp at hq
          rw [hrun, Oper.upon_value] at hq
          have hput : a.put (idle o).dst undef = a := by simp [idle, hd, Act.put]
          rwa [hput] at hq
        · exact absurd hq.1 (by
            simp [Oper.asks, idle, execOp, Act.eval]
            intro hm_
            have e_ : Sem.events P (pure (Next.value undef)) w #[] = #[] := rfl
            rw [e_] at hm_
            simp at hm_)
      have h1 : wpList P L.toArray Q [o] a w := by
        cases fuel with
        | zero => exact hK.2
        | succ f => exact hK.1 ((hnil _).2 hn)
      unfold wpOp
      have ho : L.toArray[m]? = some o := by simpa using h
      simp only [ho]
      have hwant' : Region.wanted o (yielded L.toArray a.tmps) = true := by simp [Region.wanted, hg]
      simp only [wpList, hwant', if_true] at h1
      simp only [hwant', if_true]
      refine h1.imp_left fun h2 => Oper.wp_mono (fun a'' w'' h3 => ?_) h2
      cases fuel with
      | zero => exact ⟨hn, h3⟩
      | succ f => exact ⟨fun _ => h3, fun i hi => by rw [hn] at hi; cases hi⟩
    · have ihK : ∀ a' w', wpAny P .any (L.set m (idle o)).toArray (Ahead P L o Q) fuel (listed.setIfInBounds i true) a' w' → wpAny P .any L.toArray Q fuel (listed.setIfInBounds i true) a' w' :=
        fun a' w' hk => ih _ a' w' (by simpa using hs) (hc.set hi) (by rw [getD_set_ne true (Ne.symm e)]; exact hun) hk
      unfold wpOp at hq ⊢
      rw [idle_at h, if_neg e, yielded_idle h] at hq
      cases hx : L.toArray[i]? with
      | none => simp only [hx] at hq ⊢; exact ihK _ _ hq
      | some x =>
        simp only [hx] at hq ⊢
        split
        · rename_i hw
          rw [if_pos hw] at hq
          rcases hq with hq | ⟨hq, hq2⟩
          · exact .inl (Oper.wp_mono ihK (ahead_wp hq))
          · exact .inr ⟨hq, ahead_out hq2⟩
        · rename_i hw
          rw [if_neg hw] at hq
          exact ihK _ _ hq
/-- **EVERY ORDER OF THE OTHERS, THEN THE LAST OPERATION.** -/
theorem wp_region_last {id : Nat} {a : Act} {w : World} (m : Nat) (o : Oper) (h : L[m]? = some o) (hd : o.dst = none) (hg : o.guard = none) (hm : P.follows .mixedOrders = true)
    (hl : lastB L m = true) (hO : ordB L = true)
    (hany : wpAny P .any (L.set m (idle o)).toArray (Ahead P L o Q) (L.set m (idle o)).toArray.size (Array.replicate (L.set m (idle o)).toArray.size false) a { w with drawn := w.drawn + 1 }) : (Code.region id L.toArray true).wp P Q a w := by
  have hml : m < L.length := (List.getElem?_eq_some_iff.1 h).1
  have hsz : (L.set m (idle o)).toArray.size = L.toArray.size := by simp
  rw [hsz] at hany
  exact wp_region_any hm (wpAny_of_last h hd hg hl hO _ _ _ _ (by simp) (fun k x hx hk => by simp only [Array.getD_eq_getD_getElem?, Array.getElem?_replicate] at hk; split at hk <;> simp at hk) (by simp [hml]) hany)
end
end Go.Proofs.YtnohfbpmckhbbaaDoor

namespace Go.Proofs.YtnohfbpmckhbbaaDoor
set_option maxRecDepth 100000
open Go Go.RowKit Go.Sort

/-- Cells written over, from a place on. -/
def ovw : Array Value → Nat → List Value → Array Value
  | cs, _, [] => cs
  | cs, o, v :: r => ovw (cs.setIfInBounds o v) (o + 1) r
theorem world_eq {w v : World} (h : w.heap = v.heap) (h1 : w.tape = v.tape) (h2 : w.drawn = v.drawn) (h3 : w.os = v.os) (h4 : w.output = v.output) : w = v := by
  cases w; cases v; simp_all
theorem setRow_same {w : World} {g : Nat} {cs : Array Value} {t : TypeId} {fr : Nat × Nat} (h : w.heap[g]? = some (.cells cs t fr)) : w.setRow g cs = w := by
  refine world_eq ?_ rfl rfl rfl rfl
  apply Array.ext_getElem?
  intro k
  by_cases hk : k = g
  · subst hk; rw [setRow_heap w k cs cs t fr h, h]
  · rw [setRow_other w g k cs hk]
theorem setRow_setRow {w : World} {g : Nat} {cs : Array Value} {t : TypeId} {fr : Nat × Nat} (h : w.heap[g]? = some (.cells cs t fr)) (a b : Array Value) : (w.setRow g a).setRow g b = w.setRow g b := by
  refine world_eq ?_ rfl rfl rfl rfl
  apply Array.ext_getElem?
  intro k
  by_cases hk : k = g
  · subst hk; rw [setRow_heap _ k a b t fr (setRow_heap w k cs a t fr h), setRow_heap w k cs b t fr h]
  · rw [setRow_other _ g k b hk, setRow_other w g k a hk, setRow_other w g k b hk]
theorem setCells_eq {g : Nat} {t : TypeId} {fr : Nat × Nat} : ∀ (vs : List Value) (o : Nat) (w : World) (cs : Array Value), w.heap[g]? = some (.cells cs t fr) → w.setCells g o vs = w.setRow g (ovw cs o vs)
  | [], _, w, cs, h => (setRow_same h).symm
  | v :: r, o, w, cs, h => by
    have h1 : w.setCell ⟨g, o, none⟩ v = w.setRow g (cs.setIfInBounds o v) := setCell_eq_setRow w g o cs t fr v h
    rw [World.setCells, h1, setCells_eq r (o + 1) _ (cs.setIfInBounds o v) (setRow_heap w g cs _ t fr h), setRow_setRow h]
    rfl
theorem there_row {w : World} {g : Nat} {cs : Array Value} {t : TypeId} (h : w.heap[g]? = some (.cells cs t (0, 0))) {o n : Nat} (hn : o + n ≤ cs.size) : w.there g o n := by
  intro j hj
  refine ⟨?_, ?_⟩
  · rw [cell_of_row w g (o + j) cs t (0, 0) h, Array.getElem?_eq_getElem (by omega)]; rfl
  · simp [World.frozen?, h]
/-- A part of a row read, in an ordered region. -/
theorem wpList_load_part {P : Program} {ops : Array Oper} {rest : List Oper} {o : Oper} {a : Act} {w : World} {Q : Exit → Act → World → Prop} (hw : Region.wanted o (yielded ops a.tmps) = true) (ty : TypeId) (x : Operand) (ho : o.op = .load ty x)
    (g off : Nat) (hx : a.eval x = .pointer (some ⟨g, off, none⟩)) (t : TypeId) (cs : Array Value) (fr : Nat × Nat) (part : Array Value) (d : TypeDesc) (hg : w.heap[g]? = some (.cells cs t fr)) (hp : cs.extract off (off + part.size) = part)
    (hu : P.underlying ty = some d) (hd : d.isRow = true) (hi : (P.info? ty).map (·.size) = some part.size)
    (h : wpList P ops Q rest (a.put o.dst (.agg part)) w) : wpList P ops Q (o :: rest) a w := by
  refine BigFrame.wpList_want hw fun _ hK => ?_
  have hr := World.rangeAt_of_block hg off part.size
  rw [hp] at hr
  exact wp_load_mid ty x ho g off hx part.toList d hr hu hd (by simpa using hi) (hK _ _ (by simpa using h))
/-- The same in a drawn region. -/
theorem wpQuiet_load_part {P : Program} {C : World → Prop} {ops : Array Oper} {Q : Act → Prop} {a : Act} {o : Oper} {rest : List Oper} (hw : Region.wanted o (yielded ops a.tmps) = true) (ty : TypeId) (x : Operand) (ho : o.op = .load ty x)
    (g off : Nat) (hx : a.eval x = .pointer (some ⟨g, off, none⟩)) (t : TypeId) (cs : Array Value) (fr : Nat × Nat) (part : Array Value) (d : TypeDesc) (hg : ∀ w, C w → w.heap[g]? = some (.cells cs t fr)) (hp : cs.extract off (off + part.size) = part)
    (hu : P.underlying ty = some d) (hd : d.isRow = true) (hi : (P.info? ty).map (·.size) = some part.size)
    (h : wpQuiet P ops C Q rest (a.put o.dst (.agg part))) : wpQuiet P ops C Q (o :: rest) a := by
  refine BigFrame.wpQuiet_want hw fun K hK => ⟨.agg part, fun w hw => ?_, hK _ h⟩
  have hr := World.rangeAt_of_block (hg w hw) off part.size
  rw [hp] at hr
  have hl := run_loadVar_mid (P := P) w g off ty part.toList d hr hu hd (by simpa using hi)
  unfold Oper.quietAt execOp
  simp only [ho, hx, Instr.loadAt, Instr.sureAddr, Sem.run_bind, Sem.run_pure, Result.andThen_ok, hl]
  exact ⟨by simp, rfl⟩
/-- A part of a row stored, in an ordered region. -/
theorem wpList_store_part {P : Program} {ops : Array Oper} {rest : List Oper} {o : Oper} {a : Act} {w : World} {Q : Exit → Act → World → Prop} (hgd : o.guard = none) (ty : TypeId) (x y : Operand) (ho : o.op = .store ty x y)
    (g off : Nat) (cells : Array Value) (hx : a.eval x = .pointer (some ⟨g, off, none⟩)) (hy : a.eval y = .agg cells)
    (t : TypeId) (old new : Array Value) (hg : w.heap[g]? = some (.cells old t (0, 0))) (hle : off + cells.size ≤ old.size) (hnew : ovw old off cells.toList = new) (hi : (P.info? ty).map (·.size) = some cells.size)
    (h1 : cells.all (·.oneCell') = true)
    (h : wpList P ops Q rest (a.put o.dst undef) (w.setRow g new)) : wpList P ops Q (o :: rest) a w := by
  refine wpList_store_mid hgd ty x y ho g off cells hx hy (there_row hg hle) hi h1 ?_
  rw [setCells_eq cells.toList off w old hg, hnew]
  exact h
/-- A value put together of its parts, in a drawn region. -/
theorem wpQuiet_build {P : Program} {C : World → Prop} {ops : Array Oper} {Q : Act → Prop} {a : Act} {o : Oper} {rest : List Oper} (hw : Region.wanted o (yielded ops a.tmps) = true) (t : TypeId) (parts : Array (Nat × Operand)) (ho : o.op = .build t parts)
    (vals : List (Nat × Value)) (hv : parts.toList.map (fun (i, x) => (i, a.eval x)) = vals) (cells : Array Value) (hb : P.built t vals = some cells)
    (h : wpQuiet P ops C Q rest (a.put o.dst (.agg cells))) : wpQuiet P ops C Q (o :: rest) a := by
  rw [← Array.toList_map] at hv
  subst hv
  refine BigFrame.wpQuiet_want hw fun K hK => ⟨.agg cells, fun w hw => ?_, hK _ h⟩
  unfold Oper.quietAt execOp
  simp only [ho, Sem.run_bind, run_build w t _ cells hb, Result.andThen_ok]
  exact ⟨rfl, rfl⟩
theorem wpList_build_as {P : Program} {ops : Array Oper} {rest : List Oper} {o : Oper} {a : Act} {w : World} {Q : Exit → Act → World → Prop} (hg : o.guard = none) (t : TypeId) (parts : Array (Nat × Operand)) (ho : o.op = .build t parts)
    (vals : List (Nat × Value)) (hv : parts.toList.map (fun (i, x) => (i, a.eval x)) = vals) (cells : Array Value) (hb : P.built t vals = some cells)
    (h : wpList P ops Q rest (a.put o.dst (.agg cells)) w) : wpList P ops Q (o :: rest) a w := by
  rw [← Array.toList_map] at hv
  subst hv
  refine wpList_build hg t parts ho (by rw [hb]; rfl) ?_
  rw [hb]
  exact h
theorem five {r : Array Value} (h : r.size = 5) : ∃ a b c d e, r = #[a, b, c, d, e] := by
  obtain ⟨l⟩ := r
  match l, h with
  | [a, b, c, d, e], _ => exact ⟨a, b, c, d, e, rfl⟩
theorem sixteen {r : Array Value} (h : r.size = 16) : ∃ a b c d e f g i j k l m n o p q, r = #[a, b, c, d, e, f, g, i, j, k, l, m, n, o, p, q] := by
  obtain ⟨l⟩ := r
  match l, h with
  | [a, b, c, d, e, f, g, i, j, k, l, m, n, o, p, q], _ => exact ⟨a, b, c, d, e, f, g, i, j, k, l, m, n, o, p, q, rfl⟩
/-- Four rows in one. -/
def r4 (a b c d : Array Value) : Array Value := (a.toList ++ (b.toList ++ (c.toList ++ d.toList))).toArray
theorem r4_size (a b c d : Array Value) : (r4 a b c d).size = a.size + (b.size + (c.size + d.size)) := by simp [r4]
theorem r4_one {a b c d : Array Value} (ha : a.all (·.oneCell') = true) (hb : b.all (·.oneCell') = true) (hc : c.all (·.oneCell') = true) (hd : d.all (·.oneCell') = true) : (r4 a b c d).all (·.oneCell') = true := by
  simp only [Array.all_eq_true_iff_forall_mem] at *
  intro v hv
  simp only [r4, List.mem_toArray, List.mem_append, Array.mem_toList_iff] at hv
  rcases hv with h | h | h | h
  · exact ha v h
  · exact hb v h
  · exact hc v h
  · exact hd v h
theorem r4_get0 {a b c d : Array Value} {o : Nat} (h : o = 0) : (r4 a b c d).extract o (o + a.size) = a := by
  subst h
  apply Array.ext'
  simp [r4]
theorem drop_two (a b c : List Value) : (a ++ (b ++ c)).drop (a.length + b.length) = c := by
  rw [← List.append_assoc, ← List.length_append, List.drop_left]
theorem r4_get1 {a b c d : Array Value} {o : Nat} (h : o = a.size) : (r4 a b c d).extract o (o + b.size) = b := by
  subst h
  apply Array.ext'
  simp [r4]
theorem r4_get2 {a b c d : Array Value} {o : Nat} (h : o = a.size + b.size) : (r4 a b c d).extract o (o + c.size) = c := by
  subst h
  apply Array.ext'
  have := drop_two a.toList b.toList (c.toList ++ d.toList)
  simp [r4] at this ⊢
  rw [this]
  simp
theorem r4_get3 {a b c d : Array Value} {o : Nat} (h : o = a.size + b.size + c.size) : (r4 a b c d).extract o (o + d.size) = d := by
  subst h
  apply Array.ext'
  have := drop_two (a.toList ++ b.toList) c.toList d.toList
  simp [r4] at this ⊢
  rw [this]
  exact List.take_of_length_le (by simp)
end Go.Proofs.YtnohfbpmckhbbaaDoor
