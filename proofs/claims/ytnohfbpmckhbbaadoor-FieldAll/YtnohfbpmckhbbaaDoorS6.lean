import Derived.Test.YtnohfbpmckhbbaaDoorProg
import Derived.WalkKit
import Derived.WalkSpells
import Derived.WalkLawsBesides
import Derived.Lib.QuietBelow
import Derived.BigQuiet
import Derived.Test.YtnohfbpmckhbbaaDoorS0
import Derived.Test.YtnohfbpmckhbbaaDoorS4
import Derived.Test.YtnohfbpmckhbbaaDoorS5
import Derived.Deep.MidRow
import Derived.ProofKit
import Derived.OpenShut
import Derived.ChangeSlices
import Derived.ChangeArms
import Derived.SizedLaws
import Derived.Test.YtnohfbpmckhbbaaDoorS1
import Derived.Test.YtnohfbpmckhbbaaDoorS2
import Derived.Test.YtnohfbpmckhbbaaDoorS3
namespace Go.Proofs.YtnohfbpmckhbbaaDoor
set_option maxRecDepth 100000
open Go.RowKit Go.Sort
attribute [local go_sem] setCell_drewN alloc_drewN


/-- The cells of a step. -/
structure OpOf (oc : Array Value) (K T A B N : Int) (dv : Value) (kp : Array Value) (F : Bool) (U : Int) : Prop where
  size : oc.size = 40
  one : oc.all (·.oneCell') = true
  c0 : oc[0]? = some (.int .i64 K)
  c1 : oc[1]? = some (.int .i64 T)
  c2 : oc[2]? = some (.int .i64 A)
  c3 : oc[3]? = some (.int .i64 B)
  c4 : oc[4]? = some (.int .u64 N)
  c5 : oc[5]? = some dv
  key : (oc.extract 6 (6 + 32)).toList = kp.toList
  c38 : oc[38]? = some (.bool F)
  c39 : oc[39]? = some (.int .i64 U)
/-- What a step makes. -/
noncomputable def mv (K x y N Nk : Int) (e : Nat) : Int :=
  if K = 0 then Nk % 57896044618658097711785492504343953926634992332820282019728792003956564819968 else if K = 1 then N else if K = 2 then x + y else if K = 3 then x - y else if K = 4 then -x else if K = 5 then x * y else if K = 6 then x * x else if K = 7 then x * (N % 4294967296) else if K = 8 then x ^ e else if K = 9 then x ^ 57896044618658097711785492504343953926634992332820282019728792003956564819947 else if K = 10 then rval x else x
theorem mv_other {K x y N Nk : Int} {e : Nat} (h : ¬ (0 ≤ K ∧ K ≤ 10)) : mv K x y N Nk e = x := by
  unfold mv
  repeat rw [if_neg (by omega)]

set_option maxRecDepth 100000 in
set_option maxHeartbeats 2000000 in
theorem made_0 {oc r t kp : Array Value} {x y N Nk T A B U : Int} {dv : Value} {F : Bool} {bs : List Int} (ho : OpOf oc 0 T A B N dv kp F U) (h : NumOf r x) (g : NumOf t y) (hk : KeyOf kp Nk) (hN : 0 ≤ N ∧ N < 18446744073709551616) (hz : ∀ z ∈ bs, 0 ≤ z ∧ z < 256) (hl : bs.length + 32 ≤ 281474976710656) (hnil : ∀ a l c, dv = .slice a l c → a = none → c = 0) : ∃ s, NumOf s (Nk % 57896044618658097711785492504343953926634992332820282019728792003956564819968) ∧ ∀ (w : World), Both w → Bys w dv bs → Calls Tryd.prog 7 #[.agg oc, .agg r, .agg t] w fun e w' => e = .returned (.tuple #[.agg s, .bool true]) ∧ Below w.heap.size w w' := by
  have _hu : _ ∧ _ ∧ _ ∧ _ ∧ _ ∧ _ ∧ _ := ⟨h, g, hk, hN, hz, hl, hnil⟩
  clear _hu
  obtain ⟨s, hs, c⟩ := a_from hk
  refine ⟨s, hs, fun w hF hB => ?_⟩
  have hc0 : ((((w.alloc (.cells oc 36)).alloc (.cells r 26)).alloc (.cells t 26)).alloc (.cells #[.int .u64 0, .int .u64 0, .int .u64 0, .int .u64 0, .int .u64 0] 26)).cell? ⟨w.heap.size, 0, none⟩ = some (.int .i64 0) := (cell_of_row _ _ _ _ _ _ (hp4_0 w _ _ _ _)).trans ho.c0
  have rp1 : ((((w.alloc (.cells oc 36)).alloc (.cells r 26)).alloc (.cells t 26)).alloc (.cells #[.int .u64 0, .int .u64 0, .int .u64 0, .int .u64 0, .int .u64 0] 26)).heap[w.heap.size + 1]? = some (.cells r 26 (0, 0)) := hp4_1 w _ _ _ _
  have rp2 : ((((w.alloc (.cells oc 36)).alloc (.cells r 26)).alloc (.cells t 26)).alloc (.cells #[.int .u64 0, .int .u64 0, .int .u64 0, .int .u64 0, .int .u64 0] 26)).heap[w.heap.size + 1 + 1]? = some (.cells t 26 (0, 0)) := hp4_2 w _ _ _ _
  have hkey : ((((w.alloc (.cells oc 36)).alloc (.cells r 26)).alloc (.cells t 26)).alloc (.cells #[.int .u64 0, .int .u64 0, .int .u64 0, .int .u64 0, .int .u64 0] 26)).rangeAt (w.heap.size) 6 kp.toList := by rw [← ho.key]; exact World.rangeAt_of_block (hp4_0 w _ _ _ _) 6 32
  have hkI : (Tryd.prog.info? 34).map (·.size) = some kp.toList.length := by rw [Array.length_toList]; exact hk.info
  have rp3 : ((((w.alloc (.cells oc 36)).alloc (.cells r 26)).alloc (.cells t 26)).alloc (.cells #[.int .u64 0, .int .u64 0, .int .u64 0, .int .u64 0, .int .u64 0] 26)).heap[w.heap.size + 1 + 1 + 1]? = some (.cells #[.int .u64 0, .int .u64 0, .int .u64 0, .int .u64 0, .int .u64 0] 26 (0, 0)) := hp4_3 w _ _ _ _
  have hw : Below w.heap.size w ((((w.alloc (.cells oc 36)).alloc (.cells r 26)).alloc (.cells t 26)).alloc (.cells #[.int .u64 0, .int .u64 0, .int .u64 0, .int .u64 0, .int .u64 0] 26)) := ((((Below.refl _ _).alloc (Nat.le_refl _) _).alloc (by simp) _).alloc (by simp; omega) _).alloc (by simp; omega) _
  clear hz hl ho hN hnil
  have f4 : Both ((((w.alloc (.cells oc 36)).alloc (.cells r 26)).alloc (.cells t 26)).alloc (.cells #[.int .u64 0, .int .u64 0, .int .u64 0, .int .u64 0, .int .u64 0] 26)) := (((hF.alloc _).alloc _).alloc _).alloc _
  go_enter Tryd.func7, Tryd.ntmps7
  iterate 15 go_step
  generalize ((((w.alloc (.cells oc 36)).alloc (.cells r 26)).alloc (.cells t 26)).alloc (.cells #[.int .u64 0, .int .u64 0, .int .u64 0, .int .u64 0, .int .u64 0] 26)) = w0 at *
  go_wp2_with (first | (refine wpList_load_want rfl 26 _ rfl (w.heap.size + 1) rfl 26 r (0, 0) _ rp1 Tryd.underlying26 rfl h.info ?_) | (refine wpList_load_want rfl 26 _ rfl (w.heap.size + 1 + 1) rfl 26 t (0, 0) _ rp2 Tryd.underlying26 rfl g.info ?_) | (refine wpList_load_mid rfl 34 _ rfl (w.heap.size) 6 rfl kp.toList _ hkey Tryd.underlying34 rfl hkI ?_) | fail)
  refine (c.at _).mono ?_
  rintro e w1 ⟨rfl, hb⟩
  replace rp3 := keep hb rp3
  replace hw := Below.after hw hb
  have hn3 := lt_of_row rp3
  clear hb hc0 f4 rp1 rp2 hkey
  go_wp2_with (first | (refine wpList_store_row rfl 26 _ _ rfl (w.heap.size + 1 + 1 + 1) s rfl rfl 26 _ rp3 hs.info (hs.fits rfl) hs.one ?_) | fail)
  exact bodyPost_ret (v := .tuple #[.agg s, .bool true]) (results_row_slot Tryd.results7 _ _ (w.heap.size + 1 + 1 + 1) _ s _ _ (.bool true) rfl (setRow_heap _ _ _ _ _ _ rp3) rfl Tryd.underlying26 rfl hs.info) rfl ⟨rfl, below_setRow hw (by omega) _⟩
set_option maxRecDepth 100000 in
set_option maxHeartbeats 2000000 in
theorem made_1 {oc r t kp : Array Value} {x y N Nk T A B U : Int} {dv : Value} {F : Bool} {bs : List Int} (ho : OpOf oc 1 T A B N dv kp F U) (h : NumOf r x) (g : NumOf t y) (hk : KeyOf kp Nk) (hN : 0 ≤ N ∧ N < 18446744073709551616) (hz : ∀ z ∈ bs, 0 ≤ z ∧ z < 256) (hl : bs.length + 32 ≤ 281474976710656) (hnil : ∀ a l c, dv = .slice a l c → a = none → c = 0) : ∃ s, NumOf s N ∧ ∀ (w : World), Both w → Bys w dv bs → Calls Tryd.prog 7 #[.agg oc, .agg r, .agg t] w fun e w' => e = .returned (.tuple #[.agg s, .bool true]) ∧ Below w.heap.size w w' := by
  have _hu : _ ∧ _ ∧ _ ∧ _ ∧ _ ∧ _ ∧ _ := ⟨h, g, hk, hN, hz, hl, hnil⟩
  clear _hu
  obtain ⟨s, hs, c⟩ := a_small N hN.1 hN.2
  refine ⟨s, hs, fun w hF hB => ?_⟩
  have hc0 : ((((w.alloc (.cells oc 36)).alloc (.cells r 26)).alloc (.cells t 26)).alloc (.cells #[.int .u64 0, .int .u64 0, .int .u64 0, .int .u64 0, .int .u64 0] 26)).cell? ⟨w.heap.size, 0, none⟩ = some (.int .i64 1) := (cell_of_row _ _ _ _ _ _ (hp4_0 w _ _ _ _)).trans ho.c0
  have hc4 : ((((w.alloc (.cells oc 36)).alloc (.cells r 26)).alloc (.cells t 26)).alloc (.cells #[.int .u64 0, .int .u64 0, .int .u64 0, .int .u64 0, .int .u64 0] 26)).cell? ⟨w.heap.size, 4, none⟩ = some (.int .u64 N) := (cell_of_row _ _ _ _ _ _ (hp4_0 w _ _ _ _)).trans ho.c4
  have rp1 : ((((w.alloc (.cells oc 36)).alloc (.cells r 26)).alloc (.cells t 26)).alloc (.cells #[.int .u64 0, .int .u64 0, .int .u64 0, .int .u64 0, .int .u64 0] 26)).heap[w.heap.size + 1]? = some (.cells r 26 (0, 0)) := hp4_1 w _ _ _ _
  have rp2 : ((((w.alloc (.cells oc 36)).alloc (.cells r 26)).alloc (.cells t 26)).alloc (.cells #[.int .u64 0, .int .u64 0, .int .u64 0, .int .u64 0, .int .u64 0] 26)).heap[w.heap.size + 1 + 1]? = some (.cells t 26 (0, 0)) := hp4_2 w _ _ _ _
  have rp3 : ((((w.alloc (.cells oc 36)).alloc (.cells r 26)).alloc (.cells t 26)).alloc (.cells #[.int .u64 0, .int .u64 0, .int .u64 0, .int .u64 0, .int .u64 0] 26)).heap[w.heap.size + 1 + 1 + 1]? = some (.cells #[.int .u64 0, .int .u64 0, .int .u64 0, .int .u64 0, .int .u64 0] 26 (0, 0)) := hp4_3 w _ _ _ _
  have hw : Below w.heap.size w ((((w.alloc (.cells oc 36)).alloc (.cells r 26)).alloc (.cells t 26)).alloc (.cells #[.int .u64 0, .int .u64 0, .int .u64 0, .int .u64 0, .int .u64 0] 26)) := ((((Below.refl _ _).alloc (Nat.le_refl _) _).alloc (by simp) _).alloc (by simp; omega) _).alloc (by simp; omega) _
  clear hz hl ho hk hnil
  have f4 : Both ((((w.alloc (.cells oc 36)).alloc (.cells r 26)).alloc (.cells t 26)).alloc (.cells #[.int .u64 0, .int .u64 0, .int .u64 0, .int .u64 0, .int .u64 0] 26)) := (((hF.alloc _).alloc _).alloc _).alloc _
  go_enter Tryd.func7, Tryd.ntmps7
  iterate 15 go_step
  generalize ((((w.alloc (.cells oc 36)).alloc (.cells r 26)).alloc (.cells t 26)).alloc (.cells #[.int .u64 0, .int .u64 0, .int .u64 0, .int .u64 0, .int .u64 0] 26)) = w0 at *
  go_wp2_with (first | (refine wpList_load_want rfl 26 _ rfl (w.heap.size + 1) rfl 26 r (0, 0) _ rp1 Tryd.underlying26 rfl h.info ?_) | (refine wpList_load_want rfl 26 _ rfl (w.heap.size + 1 + 1) rfl 26 t (0, 0) _ rp2 Tryd.underlying26 rfl g.info ?_) | fail)
  refine (c.at _).mono ?_
  rintro e w1 ⟨rfl, hb⟩
  replace rp3 := keep hb rp3
  replace hw := Below.after hw hb
  have hn3 := lt_of_row rp3
  clear hb hc0 f4 rp1 rp2 hc4
  go_wp2_with (first | (refine wpList_store_row rfl 26 _ _ rfl (w.heap.size + 1 + 1 + 1) s rfl rfl 26 _ rp3 hs.info (hs.fits rfl) hs.one ?_) | fail)
  exact bodyPost_ret (v := .tuple #[.agg s, .bool true]) (results_row_slot Tryd.results7 _ _ (w.heap.size + 1 + 1 + 1) _ s _ _ (.bool true) rfl (setRow_heap _ _ _ _ _ _ rp3) rfl Tryd.underlying26 rfl hs.info) rfl ⟨rfl, below_setRow hw (by omega) _⟩
set_option maxRecDepth 100000 in
set_option maxHeartbeats 2000000 in
theorem made_2 {oc r t kp : Array Value} {x y N Nk T A B U : Int} {dv : Value} {F : Bool} {bs : List Int} (ho : OpOf oc 2 T A B N dv kp F U) (h : NumOf r x) (g : NumOf t y) (hk : KeyOf kp Nk) (hN : 0 ≤ N ∧ N < 18446744073709551616) (hz : ∀ z ∈ bs, 0 ≤ z ∧ z < 256) (hl : bs.length + 32 ≤ 281474976710656) (hnil : ∀ a l c, dv = .slice a l c → a = none → c = 0) : ∃ s, NumOf s (x + y) ∧ ∀ (w : World), Both w → Bys w dv bs → Calls Tryd.prog 7 #[.agg oc, .agg r, .agg t] w fun e w' => e = .returned (.tuple #[.agg s, .bool true]) ∧ Below w.heap.size w w' := by
  have _hu : _ ∧ _ ∧ _ ∧ _ ∧ _ ∧ _ ∧ _ := ⟨h, g, hk, hN, hz, hl, hnil⟩
  clear _hu
  obtain ⟨s, hs, c⟩ := a_add h g
  refine ⟨s, hs, fun w hF hB => ?_⟩
  have hc0 : ((((w.alloc (.cells oc 36)).alloc (.cells r 26)).alloc (.cells t 26)).alloc (.cells #[.int .u64 0, .int .u64 0, .int .u64 0, .int .u64 0, .int .u64 0] 26)).cell? ⟨w.heap.size, 0, none⟩ = some (.int .i64 2) := (cell_of_row _ _ _ _ _ _ (hp4_0 w _ _ _ _)).trans ho.c0
  have rp1 : ((((w.alloc (.cells oc 36)).alloc (.cells r 26)).alloc (.cells t 26)).alloc (.cells #[.int .u64 0, .int .u64 0, .int .u64 0, .int .u64 0, .int .u64 0] 26)).heap[w.heap.size + 1]? = some (.cells r 26 (0, 0)) := hp4_1 w _ _ _ _
  have rp2 : ((((w.alloc (.cells oc 36)).alloc (.cells r 26)).alloc (.cells t 26)).alloc (.cells #[.int .u64 0, .int .u64 0, .int .u64 0, .int .u64 0, .int .u64 0] 26)).heap[w.heap.size + 1 + 1]? = some (.cells t 26 (0, 0)) := hp4_2 w _ _ _ _
  have rp3 : ((((w.alloc (.cells oc 36)).alloc (.cells r 26)).alloc (.cells t 26)).alloc (.cells #[.int .u64 0, .int .u64 0, .int .u64 0, .int .u64 0, .int .u64 0] 26)).heap[w.heap.size + 1 + 1 + 1]? = some (.cells #[.int .u64 0, .int .u64 0, .int .u64 0, .int .u64 0, .int .u64 0] 26 (0, 0)) := hp4_3 w _ _ _ _
  have hw : Below w.heap.size w ((((w.alloc (.cells oc 36)).alloc (.cells r 26)).alloc (.cells t 26)).alloc (.cells #[.int .u64 0, .int .u64 0, .int .u64 0, .int .u64 0, .int .u64 0] 26)) := ((((Below.refl _ _).alloc (Nat.le_refl _) _).alloc (by simp) _).alloc (by simp; omega) _).alloc (by simp; omega) _
  clear hz hl ho hN hk hnil
  have f4 : Both ((((w.alloc (.cells oc 36)).alloc (.cells r 26)).alloc (.cells t 26)).alloc (.cells #[.int .u64 0, .int .u64 0, .int .u64 0, .int .u64 0, .int .u64 0] 26)) := (((hF.alloc _).alloc _).alloc _).alloc _
  go_enter Tryd.func7, Tryd.ntmps7
  iterate 15 go_step
  generalize ((((w.alloc (.cells oc 36)).alloc (.cells r 26)).alloc (.cells t 26)).alloc (.cells #[.int .u64 0, .int .u64 0, .int .u64 0, .int .u64 0, .int .u64 0] 26)) = w0 at *
  go_wp2_with (first | (refine wpList_load_want rfl 26 _ rfl (w.heap.size + 1) rfl 26 r (0, 0) _ rp1 Tryd.underlying26 rfl h.info ?_) | (refine wpList_load_want rfl 26 _ rfl (w.heap.size + 1 + 1) rfl 26 t (0, 0) _ rp2 Tryd.underlying26 rfl g.info ?_) | fail)
  refine (c.at _).mono ?_
  rintro e w1 ⟨rfl, hb⟩
  replace rp3 := keep hb rp3
  replace hw := Below.after hw hb
  have hn3 := lt_of_row rp3
  clear hb hc0 f4 rp1 rp2
  go_wp2_with (first | (refine wpList_store_row rfl 26 _ _ rfl (w.heap.size + 1 + 1 + 1) s rfl rfl 26 _ rp3 hs.info (hs.fits rfl) hs.one ?_) | fail)
  exact bodyPost_ret (v := .tuple #[.agg s, .bool true]) (results_row_slot Tryd.results7 _ _ (w.heap.size + 1 + 1 + 1) _ s _ _ (.bool true) rfl (setRow_heap _ _ _ _ _ _ rp3) rfl Tryd.underlying26 rfl hs.info) rfl ⟨rfl, below_setRow hw (by omega) _⟩
set_option maxRecDepth 100000 in
set_option maxHeartbeats 2000000 in
theorem made_3 {oc r t kp : Array Value} {x y N Nk T A B U : Int} {dv : Value} {F : Bool} {bs : List Int} (ho : OpOf oc 3 T A B N dv kp F U) (h : NumOf r x) (g : NumOf t y) (hk : KeyOf kp Nk) (hN : 0 ≤ N ∧ N < 18446744073709551616) (hz : ∀ z ∈ bs, 0 ≤ z ∧ z < 256) (hl : bs.length + 32 ≤ 281474976710656) (hnil : ∀ a l c, dv = .slice a l c → a = none → c = 0) : ∃ s, NumOf s (x - y) ∧ ∀ (w : World), Both w → Bys w dv bs → Calls Tryd.prog 7 #[.agg oc, .agg r, .agg t] w fun e w' => e = .returned (.tuple #[.agg s, .bool true]) ∧ Below w.heap.size w w' := by
  have _hu : _ ∧ _ ∧ _ ∧ _ ∧ _ ∧ _ ∧ _ := ⟨h, g, hk, hN, hz, hl, hnil⟩
  clear _hu
  obtain ⟨s, hs, c⟩ := a_sub h g
  refine ⟨s, hs, fun w hF hB => ?_⟩
  have hc0 : ((((w.alloc (.cells oc 36)).alloc (.cells r 26)).alloc (.cells t 26)).alloc (.cells #[.int .u64 0, .int .u64 0, .int .u64 0, .int .u64 0, .int .u64 0] 26)).cell? ⟨w.heap.size, 0, none⟩ = some (.int .i64 3) := (cell_of_row _ _ _ _ _ _ (hp4_0 w _ _ _ _)).trans ho.c0
  have rp1 : ((((w.alloc (.cells oc 36)).alloc (.cells r 26)).alloc (.cells t 26)).alloc (.cells #[.int .u64 0, .int .u64 0, .int .u64 0, .int .u64 0, .int .u64 0] 26)).heap[w.heap.size + 1]? = some (.cells r 26 (0, 0)) := hp4_1 w _ _ _ _
  have rp2 : ((((w.alloc (.cells oc 36)).alloc (.cells r 26)).alloc (.cells t 26)).alloc (.cells #[.int .u64 0, .int .u64 0, .int .u64 0, .int .u64 0, .int .u64 0] 26)).heap[w.heap.size + 1 + 1]? = some (.cells t 26 (0, 0)) := hp4_2 w _ _ _ _
  have rp3 : ((((w.alloc (.cells oc 36)).alloc (.cells r 26)).alloc (.cells t 26)).alloc (.cells #[.int .u64 0, .int .u64 0, .int .u64 0, .int .u64 0, .int .u64 0] 26)).heap[w.heap.size + 1 + 1 + 1]? = some (.cells #[.int .u64 0, .int .u64 0, .int .u64 0, .int .u64 0, .int .u64 0] 26 (0, 0)) := hp4_3 w _ _ _ _
  have hw : Below w.heap.size w ((((w.alloc (.cells oc 36)).alloc (.cells r 26)).alloc (.cells t 26)).alloc (.cells #[.int .u64 0, .int .u64 0, .int .u64 0, .int .u64 0, .int .u64 0] 26)) := ((((Below.refl _ _).alloc (Nat.le_refl _) _).alloc (by simp) _).alloc (by simp; omega) _).alloc (by simp; omega) _
  clear hz hl ho hN hk hnil
  have f4 : Both ((((w.alloc (.cells oc 36)).alloc (.cells r 26)).alloc (.cells t 26)).alloc (.cells #[.int .u64 0, .int .u64 0, .int .u64 0, .int .u64 0, .int .u64 0] 26)) := (((hF.alloc _).alloc _).alloc _).alloc _
  go_enter Tryd.func7, Tryd.ntmps7
  iterate 15 go_step
  generalize ((((w.alloc (.cells oc 36)).alloc (.cells r 26)).alloc (.cells t 26)).alloc (.cells #[.int .u64 0, .int .u64 0, .int .u64 0, .int .u64 0, .int .u64 0] 26)) = w0 at *
  go_wp2_with (first | (refine wpList_load_want rfl 26 _ rfl (w.heap.size + 1) rfl 26 r (0, 0) _ rp1 Tryd.underlying26 rfl h.info ?_) | (refine wpList_load_want rfl 26 _ rfl (w.heap.size + 1 + 1) rfl 26 t (0, 0) _ rp2 Tryd.underlying26 rfl g.info ?_) | fail)
  refine (c.at f4.1).mono ?_
  rintro e w1 ⟨rfl, hb⟩
  replace rp3 := keep hb rp3
  replace hw := Below.after hw hb
  have hn3 := lt_of_row rp3
  clear hb hc0 f4 rp1 rp2
  go_wp2_with (first | (refine wpList_store_row rfl 26 _ _ rfl (w.heap.size + 1 + 1 + 1) s rfl rfl 26 _ rp3 hs.info (hs.fits rfl) hs.one ?_) | fail)
  exact bodyPost_ret (v := .tuple #[.agg s, .bool true]) (results_row_slot Tryd.results7 _ _ (w.heap.size + 1 + 1 + 1) _ s _ _ (.bool true) rfl (setRow_heap _ _ _ _ _ _ rp3) rfl Tryd.underlying26 rfl hs.info) rfl ⟨rfl, below_setRow hw (by omega) _⟩
set_option maxRecDepth 100000 in
set_option maxHeartbeats 2000000 in
theorem made_4 {oc r t kp : Array Value} {x y N Nk T A B U : Int} {dv : Value} {F : Bool} {bs : List Int} (ho : OpOf oc 4 T A B N dv kp F U) (h : NumOf r x) (g : NumOf t y) (hk : KeyOf kp Nk) (hN : 0 ≤ N ∧ N < 18446744073709551616) (hz : ∀ z ∈ bs, 0 ≤ z ∧ z < 256) (hl : bs.length + 32 ≤ 281474976710656) (hnil : ∀ a l c, dv = .slice a l c → a = none → c = 0) : ∃ s, NumOf s (-x) ∧ ∀ (w : World), Both w → Bys w dv bs → Calls Tryd.prog 7 #[.agg oc, .agg r, .agg t] w fun e w' => e = .returned (.tuple #[.agg s, .bool true]) ∧ Below w.heap.size w w' := by
  have _hu : _ ∧ _ ∧ _ ∧ _ ∧ _ ∧ _ ∧ _ := ⟨h, g, hk, hN, hz, hl, hnil⟩
  clear _hu
  obtain ⟨s, hs, c⟩ := a_neg h
  refine ⟨s, hs, fun w hF hB => ?_⟩
  have hc0 : ((((w.alloc (.cells oc 36)).alloc (.cells r 26)).alloc (.cells t 26)).alloc (.cells #[.int .u64 0, .int .u64 0, .int .u64 0, .int .u64 0, .int .u64 0] 26)).cell? ⟨w.heap.size, 0, none⟩ = some (.int .i64 4) := (cell_of_row _ _ _ _ _ _ (hp4_0 w _ _ _ _)).trans ho.c0
  have rp1 : ((((w.alloc (.cells oc 36)).alloc (.cells r 26)).alloc (.cells t 26)).alloc (.cells #[.int .u64 0, .int .u64 0, .int .u64 0, .int .u64 0, .int .u64 0] 26)).heap[w.heap.size + 1]? = some (.cells r 26 (0, 0)) := hp4_1 w _ _ _ _
  have rp2 : ((((w.alloc (.cells oc 36)).alloc (.cells r 26)).alloc (.cells t 26)).alloc (.cells #[.int .u64 0, .int .u64 0, .int .u64 0, .int .u64 0, .int .u64 0] 26)).heap[w.heap.size + 1 + 1]? = some (.cells t 26 (0, 0)) := hp4_2 w _ _ _ _
  have rp3 : ((((w.alloc (.cells oc 36)).alloc (.cells r 26)).alloc (.cells t 26)).alloc (.cells #[.int .u64 0, .int .u64 0, .int .u64 0, .int .u64 0, .int .u64 0] 26)).heap[w.heap.size + 1 + 1 + 1]? = some (.cells #[.int .u64 0, .int .u64 0, .int .u64 0, .int .u64 0, .int .u64 0] 26 (0, 0)) := hp4_3 w _ _ _ _
  have hw : Below w.heap.size w ((((w.alloc (.cells oc 36)).alloc (.cells r 26)).alloc (.cells t 26)).alloc (.cells #[.int .u64 0, .int .u64 0, .int .u64 0, .int .u64 0, .int .u64 0] 26)) := ((((Below.refl _ _).alloc (Nat.le_refl _) _).alloc (by simp) _).alloc (by simp; omega) _).alloc (by simp; omega) _
  clear hz hl ho hN hk hnil
  have f4 : Both ((((w.alloc (.cells oc 36)).alloc (.cells r 26)).alloc (.cells t 26)).alloc (.cells #[.int .u64 0, .int .u64 0, .int .u64 0, .int .u64 0, .int .u64 0] 26)) := (((hF.alloc _).alloc _).alloc _).alloc _
  go_enter Tryd.func7, Tryd.ntmps7
  iterate 15 go_step
  generalize ((((w.alloc (.cells oc 36)).alloc (.cells r 26)).alloc (.cells t 26)).alloc (.cells #[.int .u64 0, .int .u64 0, .int .u64 0, .int .u64 0, .int .u64 0] 26)) = w0 at *
  go_wp2_with (first | (refine wpList_load_want rfl 26 _ rfl (w.heap.size + 1) rfl 26 r (0, 0) _ rp1 Tryd.underlying26 rfl h.info ?_) | (refine wpList_load_want rfl 26 _ rfl (w.heap.size + 1 + 1) rfl 26 t (0, 0) _ rp2 Tryd.underlying26 rfl g.info ?_) | fail)
  refine (c.at f4.1).mono ?_
  rintro e w1 ⟨rfl, hb⟩
  replace rp3 := keep hb rp3
  replace hw := Below.after hw hb
  have hn3 := lt_of_row rp3
  clear hb hc0 f4 rp1 rp2
  go_wp2_with (first | (refine wpList_store_row rfl 26 _ _ rfl (w.heap.size + 1 + 1 + 1) s rfl rfl 26 _ rp3 hs.info (hs.fits rfl) hs.one ?_) | fail)
  exact bodyPost_ret (v := .tuple #[.agg s, .bool true]) (results_row_slot Tryd.results7 _ _ (w.heap.size + 1 + 1 + 1) _ s _ _ (.bool true) rfl (setRow_heap _ _ _ _ _ _ rp3) rfl Tryd.underlying26 rfl hs.info) rfl ⟨rfl, below_setRow hw (by omega) _⟩
set_option maxRecDepth 100000 in
set_option maxHeartbeats 2000000 in
theorem made_5 {oc r t kp : Array Value} {x y N Nk T A B U : Int} {dv : Value} {F : Bool} {bs : List Int} (ho : OpOf oc 5 T A B N dv kp F U) (h : NumOf r x) (g : NumOf t y) (hk : KeyOf kp Nk) (hN : 0 ≤ N ∧ N < 18446744073709551616) (hz : ∀ z ∈ bs, 0 ≤ z ∧ z < 256) (hl : bs.length + 32 ≤ 281474976710656) (hnil : ∀ a l c, dv = .slice a l c → a = none → c = 0) : ∃ s, NumOf s (x * y) ∧ ∀ (w : World), Both w → Bys w dv bs → Calls Tryd.prog 7 #[.agg oc, .agg r, .agg t] w fun e w' => e = .returned (.tuple #[.agg s, .bool true]) ∧ Below w.heap.size w w' := by
  have _hu : _ ∧ _ ∧ _ ∧ _ ∧ _ ∧ _ ∧ _ := ⟨h, g, hk, hN, hz, hl, hnil⟩
  clear _hu
  obtain ⟨s, hs, c⟩ := a_mul h g
  refine ⟨s, hs, fun w hF hB => ?_⟩
  have hc0 : ((((w.alloc (.cells oc 36)).alloc (.cells r 26)).alloc (.cells t 26)).alloc (.cells #[.int .u64 0, .int .u64 0, .int .u64 0, .int .u64 0, .int .u64 0] 26)).cell? ⟨w.heap.size, 0, none⟩ = some (.int .i64 5) := (cell_of_row _ _ _ _ _ _ (hp4_0 w _ _ _ _)).trans ho.c0
  have rp1 : ((((w.alloc (.cells oc 36)).alloc (.cells r 26)).alloc (.cells t 26)).alloc (.cells #[.int .u64 0, .int .u64 0, .int .u64 0, .int .u64 0, .int .u64 0] 26)).heap[w.heap.size + 1]? = some (.cells r 26 (0, 0)) := hp4_1 w _ _ _ _
  have rp2 : ((((w.alloc (.cells oc 36)).alloc (.cells r 26)).alloc (.cells t 26)).alloc (.cells #[.int .u64 0, .int .u64 0, .int .u64 0, .int .u64 0, .int .u64 0] 26)).heap[w.heap.size + 1 + 1]? = some (.cells t 26 (0, 0)) := hp4_2 w _ _ _ _
  have rp3 : ((((w.alloc (.cells oc 36)).alloc (.cells r 26)).alloc (.cells t 26)).alloc (.cells #[.int .u64 0, .int .u64 0, .int .u64 0, .int .u64 0, .int .u64 0] 26)).heap[w.heap.size + 1 + 1 + 1]? = some (.cells #[.int .u64 0, .int .u64 0, .int .u64 0, .int .u64 0, .int .u64 0] 26 (0, 0)) := hp4_3 w _ _ _ _
  have hw : Below w.heap.size w ((((w.alloc (.cells oc 36)).alloc (.cells r 26)).alloc (.cells t 26)).alloc (.cells #[.int .u64 0, .int .u64 0, .int .u64 0, .int .u64 0, .int .u64 0] 26)) := ((((Below.refl _ _).alloc (Nat.le_refl _) _).alloc (by simp) _).alloc (by simp; omega) _).alloc (by simp; omega) _
  clear hz hl ho hN hk hnil
  have f4 : Both ((((w.alloc (.cells oc 36)).alloc (.cells r 26)).alloc (.cells t 26)).alloc (.cells #[.int .u64 0, .int .u64 0, .int .u64 0, .int .u64 0, .int .u64 0] 26)) := (((hF.alloc _).alloc _).alloc _).alloc _
  go_enter Tryd.func7, Tryd.ntmps7
  iterate 15 go_step
  generalize ((((w.alloc (.cells oc 36)).alloc (.cells r 26)).alloc (.cells t 26)).alloc (.cells #[.int .u64 0, .int .u64 0, .int .u64 0, .int .u64 0, .int .u64 0] 26)) = w0 at *
  go_wp2_with (first | (refine wpList_load_want rfl 26 _ rfl (w.heap.size + 1) rfl 26 r (0, 0) _ rp1 Tryd.underlying26 rfl h.info ?_) | (refine wpList_load_want rfl 26 _ rfl (w.heap.size + 1 + 1) rfl 26 t (0, 0) _ rp2 Tryd.underlying26 rfl g.info ?_) | fail)
  refine (c.at _).mono ?_
  rintro e w1 ⟨rfl, hb⟩
  replace rp3 := keep hb rp3
  replace hw := Below.after hw hb
  have hn3 := lt_of_row rp3
  clear hb hc0 f4 rp1 rp2
  go_wp2_with (first | (refine wpList_store_row rfl 26 _ _ rfl (w.heap.size + 1 + 1 + 1) s rfl rfl 26 _ rp3 hs.info (hs.fits rfl) hs.one ?_) | fail)
  exact bodyPost_ret (v := .tuple #[.agg s, .bool true]) (results_row_slot Tryd.results7 _ _ (w.heap.size + 1 + 1 + 1) _ s _ _ (.bool true) rfl (setRow_heap _ _ _ _ _ _ rp3) rfl Tryd.underlying26 rfl hs.info) rfl ⟨rfl, below_setRow hw (by omega) _⟩
set_option maxRecDepth 100000 in
set_option maxHeartbeats 2000000 in
theorem made_6 {oc r t kp : Array Value} {x y N Nk T A B U : Int} {dv : Value} {F : Bool} {bs : List Int} (ho : OpOf oc 6 T A B N dv kp F U) (h : NumOf r x) (g : NumOf t y) (hk : KeyOf kp Nk) (hN : 0 ≤ N ∧ N < 18446744073709551616) (hz : ∀ z ∈ bs, 0 ≤ z ∧ z < 256) (hl : bs.length + 32 ≤ 281474976710656) (hnil : ∀ a l c, dv = .slice a l c → a = none → c = 0) : ∃ s, NumOf s (x * x) ∧ ∀ (w : World), Both w → Bys w dv bs → Calls Tryd.prog 7 #[.agg oc, .agg r, .agg t] w fun e w' => e = .returned (.tuple #[.agg s, .bool true]) ∧ Below w.heap.size w w' := by
  have _hu : _ ∧ _ ∧ _ ∧ _ ∧ _ ∧ _ ∧ _ := ⟨h, g, hk, hN, hz, hl, hnil⟩
  clear _hu
  obtain ⟨s, hs, c⟩ := a_square h
  refine ⟨s, hs, fun w hF hB => ?_⟩
  have hc0 : ((((w.alloc (.cells oc 36)).alloc (.cells r 26)).alloc (.cells t 26)).alloc (.cells #[.int .u64 0, .int .u64 0, .int .u64 0, .int .u64 0, .int .u64 0] 26)).cell? ⟨w.heap.size, 0, none⟩ = some (.int .i64 6) := (cell_of_row _ _ _ _ _ _ (hp4_0 w _ _ _ _)).trans ho.c0
  have rp1 : ((((w.alloc (.cells oc 36)).alloc (.cells r 26)).alloc (.cells t 26)).alloc (.cells #[.int .u64 0, .int .u64 0, .int .u64 0, .int .u64 0, .int .u64 0] 26)).heap[w.heap.size + 1]? = some (.cells r 26 (0, 0)) := hp4_1 w _ _ _ _
  have rp2 : ((((w.alloc (.cells oc 36)).alloc (.cells r 26)).alloc (.cells t 26)).alloc (.cells #[.int .u64 0, .int .u64 0, .int .u64 0, .int .u64 0, .int .u64 0] 26)).heap[w.heap.size + 1 + 1]? = some (.cells t 26 (0, 0)) := hp4_2 w _ _ _ _
  have rp3 : ((((w.alloc (.cells oc 36)).alloc (.cells r 26)).alloc (.cells t 26)).alloc (.cells #[.int .u64 0, .int .u64 0, .int .u64 0, .int .u64 0, .int .u64 0] 26)).heap[w.heap.size + 1 + 1 + 1]? = some (.cells #[.int .u64 0, .int .u64 0, .int .u64 0, .int .u64 0, .int .u64 0] 26 (0, 0)) := hp4_3 w _ _ _ _
  have hw : Below w.heap.size w ((((w.alloc (.cells oc 36)).alloc (.cells r 26)).alloc (.cells t 26)).alloc (.cells #[.int .u64 0, .int .u64 0, .int .u64 0, .int .u64 0, .int .u64 0] 26)) := ((((Below.refl _ _).alloc (Nat.le_refl _) _).alloc (by simp) _).alloc (by simp; omega) _).alloc (by simp; omega) _
  clear hz hl ho hN hk hnil
  have f4 : Both ((((w.alloc (.cells oc 36)).alloc (.cells r 26)).alloc (.cells t 26)).alloc (.cells #[.int .u64 0, .int .u64 0, .int .u64 0, .int .u64 0, .int .u64 0] 26)) := (((hF.alloc _).alloc _).alloc _).alloc _
  go_enter Tryd.func7, Tryd.ntmps7
  iterate 15 go_step
  generalize ((((w.alloc (.cells oc 36)).alloc (.cells r 26)).alloc (.cells t 26)).alloc (.cells #[.int .u64 0, .int .u64 0, .int .u64 0, .int .u64 0, .int .u64 0] 26)) = w0 at *
  go_wp2_with (first | (refine wpList_load_want rfl 26 _ rfl (w.heap.size + 1) rfl 26 r (0, 0) _ rp1 Tryd.underlying26 rfl h.info ?_) | (refine wpList_load_want rfl 26 _ rfl (w.heap.size + 1 + 1) rfl 26 t (0, 0) _ rp2 Tryd.underlying26 rfl g.info ?_) | fail)
  refine (c.at _).mono ?_
  rintro e w1 ⟨rfl, hb⟩
  replace rp3 := keep hb rp3
  replace hw := Below.after hw hb
  have hn3 := lt_of_row rp3
  clear hb hc0 f4 rp1 rp2
  go_wp2_with (first | (refine wpList_store_row rfl 26 _ _ rfl (w.heap.size + 1 + 1 + 1) s rfl rfl 26 _ rp3 hs.info (hs.fits rfl) hs.one ?_) | fail)
  exact bodyPost_ret (v := .tuple #[.agg s, .bool true]) (results_row_slot Tryd.results7 _ _ (w.heap.size + 1 + 1 + 1) _ s _ _ (.bool true) rfl (setRow_heap _ _ _ _ _ _ rp3) rfl Tryd.underlying26 rfl hs.info) rfl ⟨rfl, below_setRow hw (by omega) _⟩
set_option maxRecDepth 100000 in
set_option maxHeartbeats 2000000 in
theorem made_7 {oc r t kp : Array Value} {x y N Nk T A B U : Int} {dv : Value} {F : Bool} {bs : List Int} (ho : OpOf oc 7 T A B N dv kp F U) (h : NumOf r x) (g : NumOf t y) (hk : KeyOf kp Nk) (hN : 0 ≤ N ∧ N < 18446744073709551616) (hz : ∀ z ∈ bs, 0 ≤ z ∧ z < 256) (hl : bs.length + 32 ≤ 281474976710656) (hnil : ∀ a l c, dv = .slice a l c → a = none → c = 0) : ∃ s, NumOf s (x * (N % 4294967296)) ∧ ∀ (w : World), Both w → Bys w dv bs → Calls Tryd.prog 7 #[.agg oc, .agg r, .agg t] w fun e w' => e = .returned (.tuple #[.agg s, .bool true]) ∧ Below w.heap.size w w' := by
  have _hu : _ ∧ _ ∧ _ ∧ _ ∧ _ ∧ _ ∧ _ := ⟨h, g, hk, hN, hz, hl, hnil⟩
  clear _hu
  obtain ⟨s, hs, c⟩ := a_times h (N % 4294967296) (by omega) (by omega)
  refine ⟨s, hs, fun w hF hB => ?_⟩
  have hc0 : ((((w.alloc (.cells oc 36)).alloc (.cells r 26)).alloc (.cells t 26)).alloc (.cells #[.int .u64 0, .int .u64 0, .int .u64 0, .int .u64 0, .int .u64 0] 26)).cell? ⟨w.heap.size, 0, none⟩ = some (.int .i64 7) := (cell_of_row _ _ _ _ _ _ (hp4_0 w _ _ _ _)).trans ho.c0
  have hc4 : ((((w.alloc (.cells oc 36)).alloc (.cells r 26)).alloc (.cells t 26)).alloc (.cells #[.int .u64 0, .int .u64 0, .int .u64 0, .int .u64 0, .int .u64 0] 26)).cell? ⟨w.heap.size, 4, none⟩ = some (.int .u64 N) := (cell_of_row _ _ _ _ _ _ (hp4_0 w _ _ _ _)).trans ho.c4
  have rp1 : ((((w.alloc (.cells oc 36)).alloc (.cells r 26)).alloc (.cells t 26)).alloc (.cells #[.int .u64 0, .int .u64 0, .int .u64 0, .int .u64 0, .int .u64 0] 26)).heap[w.heap.size + 1]? = some (.cells r 26 (0, 0)) := hp4_1 w _ _ _ _
  have rp2 : ((((w.alloc (.cells oc 36)).alloc (.cells r 26)).alloc (.cells t 26)).alloc (.cells #[.int .u64 0, .int .u64 0, .int .u64 0, .int .u64 0, .int .u64 0] 26)).heap[w.heap.size + 1 + 1]? = some (.cells t 26 (0, 0)) := hp4_2 w _ _ _ _
  have rp3 : ((((w.alloc (.cells oc 36)).alloc (.cells r 26)).alloc (.cells t 26)).alloc (.cells #[.int .u64 0, .int .u64 0, .int .u64 0, .int .u64 0, .int .u64 0] 26)).heap[w.heap.size + 1 + 1 + 1]? = some (.cells #[.int .u64 0, .int .u64 0, .int .u64 0, .int .u64 0, .int .u64 0] 26 (0, 0)) := hp4_3 w _ _ _ _
  have hw : Below w.heap.size w ((((w.alloc (.cells oc 36)).alloc (.cells r 26)).alloc (.cells t 26)).alloc (.cells #[.int .u64 0, .int .u64 0, .int .u64 0, .int .u64 0, .int .u64 0] 26)) := ((((Below.refl _ _).alloc (Nat.le_refl _) _).alloc (by simp) _).alloc (by simp; omega) _).alloc (by simp; omega) _
  clear hz hl ho hk hnil
  have f4 : Both ((((w.alloc (.cells oc 36)).alloc (.cells r 26)).alloc (.cells t 26)).alloc (.cells #[.int .u64 0, .int .u64 0, .int .u64 0, .int .u64 0, .int .u64 0] 26)) := (((hF.alloc _).alloc _).alloc _).alloc _
  go_enter Tryd.func7, Tryd.ntmps7
  iterate 15 go_step
  generalize ((((w.alloc (.cells oc 36)).alloc (.cells r 26)).alloc (.cells t 26)).alloc (.cells #[.int .u64 0, .int .u64 0, .int .u64 0, .int .u64 0, .int .u64 0] 26)) = w0 at *
  go_wp2_with (first | (refine wpList_load_want rfl 26 _ rfl (w.heap.size + 1) rfl 26 r (0, 0) _ rp1 Tryd.underlying26 rfl h.info ?_) | (refine wpList_load_want rfl 26 _ rfl (w.heap.size + 1 + 1) rfl 26 t (0, 0) _ rp2 Tryd.underlying26 rfl g.info ?_) | fail)
  refine (c.at _).mono ?_
  rintro e w1 ⟨rfl, hb⟩
  replace rp3 := keep hb rp3
  replace hw := Below.after hw hb
  have hn3 := lt_of_row rp3
  clear hb hc0 f4 rp1 rp2 hc4
  go_wp2_with (first | (refine wpList_store_row rfl 26 _ _ rfl (w.heap.size + 1 + 1 + 1) s rfl rfl 26 _ rp3 hs.info (hs.fits rfl) hs.one ?_) | fail)
  exact bodyPost_ret (v := .tuple #[.agg s, .bool true]) (results_row_slot Tryd.results7 _ _ (w.heap.size + 1 + 1 + 1) _ s _ _ (.bool true) rfl (setRow_heap _ _ _ _ _ _ rp3) rfl Tryd.underlying26 rfl hs.info) rfl ⟨rfl, below_setRow hw (by omega) _⟩
set_option maxRecDepth 100000 in
set_option maxHeartbeats 2000000 in
theorem made_8 {oc r t kp : Array Value} {x y N Nk T A B U : Int} {dv : Value} {F : Bool} {bs : List Int} (ho : OpOf oc 8 T A B N dv kp F U) (h : NumOf r x) (g : NumOf t y) (hk : KeyOf kp Nk) (hN : 0 ≤ N ∧ N < 18446744073709551616) (hz : ∀ z ∈ bs, 0 ≤ z ∧ z < 256) (hl : bs.length + 32 ≤ 281474976710656) (hnil : ∀ a l c, dv = .slice a l c → a = none → c = 0) : ∃ s, NumOf s (x ^ bval bs) ∧ ∀ (w : World), Both w → Bys w dv bs → Calls Tryd.prog 7 #[.agg oc, .agg r, .agg t] w fun e w' => e = .returned (.tuple #[.agg s, .bool true]) ∧ Below w.heap.size w w' := by
  have _hu : _ ∧ _ ∧ _ ∧ _ ∧ _ ∧ _ ∧ _ := ⟨h, g, hk, hN, hz, hl, hnil⟩
  clear _hu
  obtain ⟨s, hs, c⟩ := a_raised h bs hz hl
  refine ⟨s, hs, fun w hF hB => ?_⟩
  have hc0 : ((((w.alloc (.cells oc 36)).alloc (.cells r 26)).alloc (.cells t 26)).alloc (.cells #[.int .u64 0, .int .u64 0, .int .u64 0, .int .u64 0, .int .u64 0] 26)).cell? ⟨w.heap.size, 0, none⟩ = some (.int .i64 8) := (cell_of_row _ _ _ _ _ _ (hp4_0 w _ _ _ _)).trans ho.c0
  have hc5 : ((((w.alloc (.cells oc 36)).alloc (.cells r 26)).alloc (.cells t 26)).alloc (.cells #[.int .u64 0, .int .u64 0, .int .u64 0, .int .u64 0, .int .u64 0] 26)).cell? ⟨w.heap.size, 5, none⟩ = some dv := (cell_of_row _ _ _ _ _ _ (hp4_0 w _ _ _ _)).trans ho.c5
  have rp1 : ((((w.alloc (.cells oc 36)).alloc (.cells r 26)).alloc (.cells t 26)).alloc (.cells #[.int .u64 0, .int .u64 0, .int .u64 0, .int .u64 0, .int .u64 0] 26)).heap[w.heap.size + 1]? = some (.cells r 26 (0, 0)) := hp4_1 w _ _ _ _
  have rp2 : ((((w.alloc (.cells oc 36)).alloc (.cells r 26)).alloc (.cells t 26)).alloc (.cells #[.int .u64 0, .int .u64 0, .int .u64 0, .int .u64 0, .int .u64 0] 26)).heap[w.heap.size + 1 + 1]? = some (.cells t 26 (0, 0)) := hp4_2 w _ _ _ _
  have rp3 : ((((w.alloc (.cells oc 36)).alloc (.cells r 26)).alloc (.cells t 26)).alloc (.cells #[.int .u64 0, .int .u64 0, .int .u64 0, .int .u64 0, .int .u64 0] 26)).heap[w.heap.size + 1 + 1 + 1]? = some (.cells #[.int .u64 0, .int .u64 0, .int .u64 0, .int .u64 0, .int .u64 0] 26 (0, 0)) := hp4_3 w _ _ _ _
  have hw : Below w.heap.size w ((((w.alloc (.cells oc 36)).alloc (.cells r 26)).alloc (.cells t 26)).alloc (.cells #[.int .u64 0, .int .u64 0, .int .u64 0, .int .u64 0, .int .u64 0] 26)) := ((((Below.refl _ _).alloc (Nat.le_refl _) _).alloc (by simp) _).alloc (by simp; omega) _).alloc (by simp; omega) _
  clear hz hl ho hN hk
  have f4 : Both ((((w.alloc (.cells oc 36)).alloc (.cells r 26)).alloc (.cells t 26)).alloc (.cells #[.int .u64 0, .int .u64 0, .int .u64 0, .int .u64 0, .int .u64 0] 26)) := (((hF.alloc _).alloc _).alloc _).alloc _
  have hB' := hB.keep hw
  go_enter Tryd.func7, Tryd.ntmps7
  iterate 15 go_step
  generalize ((((w.alloc (.cells oc 36)).alloc (.cells r 26)).alloc (.cells t 26)).alloc (.cells #[.int .u64 0, .int .u64 0, .int .u64 0, .int .u64 0, .int .u64 0] 26)) = w0 at *
  go_wp2_with (first | (refine wpList_load_want rfl 26 _ rfl (w.heap.size + 1) rfl 26 r (0, 0) _ rp1 Tryd.underlying26 rfl h.info ?_) | (refine wpList_load_want rfl 26 _ rfl (w.heap.size + 1 + 1) rfl 26 t (0, 0) _ rp2 Tryd.underlying26 rfl g.info ?_) | fail)
  refine (c _ _ hB' hnil).mono ?_
  rintro e w1 ⟨rfl, hb⟩
  replace rp3 := keep hb rp3
  replace hw := Below.after hw hb
  have hn3 := lt_of_row rp3
  clear hb hc0 f4 rp1 rp2 hc5 hB'
  go_wp2_with (first | (refine wpList_store_row rfl 26 _ _ rfl (w.heap.size + 1 + 1 + 1) s rfl rfl 26 _ rp3 hs.info (hs.fits rfl) hs.one ?_) | fail)
  exact bodyPost_ret (v := .tuple #[.agg s, .bool true]) (results_row_slot Tryd.results7 _ _ (w.heap.size + 1 + 1 + 1) _ s _ _ (.bool true) rfl (setRow_heap _ _ _ _ _ _ rp3) rfl Tryd.underlying26 rfl hs.info) rfl ⟨rfl, below_setRow hw (by omega) _⟩
set_option maxRecDepth 100000 in
set_option maxHeartbeats 2000000 in
theorem made_9 {oc r t kp : Array Value} {x y N Nk T A B U : Int} {dv : Value} {F : Bool} {bs : List Int} (ho : OpOf oc 9 T A B N dv kp F U) (h : NumOf r x) (g : NumOf t y) (hk : KeyOf kp Nk) (hN : 0 ≤ N ∧ N < 18446744073709551616) (hz : ∀ z ∈ bs, 0 ≤ z ∧ z < 256) (hl : bs.length + 32 ≤ 281474976710656) (hnil : ∀ a l c, dv = .slice a l c → a = none → c = 0) : ∃ s, NumOf s (x ^ 57896044618658097711785492504343953926634992332820282019728792003956564819947) ∧ ∀ (w : World), Both w → Bys w dv bs → Calls Tryd.prog 7 #[.agg oc, .agg r, .agg t] w fun e w' => e = .returned (.tuple #[.agg s, .bool true]) ∧ Below w.heap.size w w' := by
  have _hu : _ ∧ _ ∧ _ ∧ _ ∧ _ ∧ _ ∧ _ := ⟨h, g, hk, hN, hz, hl, hnil⟩
  clear _hu
  obtain ⟨s, hs, c⟩ := a_invert h
  refine ⟨s, hs, fun w hF hB => ?_⟩
  have hc0 : ((((w.alloc (.cells oc 36)).alloc (.cells r 26)).alloc (.cells t 26)).alloc (.cells #[.int .u64 0, .int .u64 0, .int .u64 0, .int .u64 0, .int .u64 0] 26)).cell? ⟨w.heap.size, 0, none⟩ = some (.int .i64 9) := (cell_of_row _ _ _ _ _ _ (hp4_0 w _ _ _ _)).trans ho.c0
  have rp1 : ((((w.alloc (.cells oc 36)).alloc (.cells r 26)).alloc (.cells t 26)).alloc (.cells #[.int .u64 0, .int .u64 0, .int .u64 0, .int .u64 0, .int .u64 0] 26)).heap[w.heap.size + 1]? = some (.cells r 26 (0, 0)) := hp4_1 w _ _ _ _
  have rp2 : ((((w.alloc (.cells oc 36)).alloc (.cells r 26)).alloc (.cells t 26)).alloc (.cells #[.int .u64 0, .int .u64 0, .int .u64 0, .int .u64 0, .int .u64 0] 26)).heap[w.heap.size + 1 + 1]? = some (.cells t 26 (0, 0)) := hp4_2 w _ _ _ _
  have rp3 : ((((w.alloc (.cells oc 36)).alloc (.cells r 26)).alloc (.cells t 26)).alloc (.cells #[.int .u64 0, .int .u64 0, .int .u64 0, .int .u64 0, .int .u64 0] 26)).heap[w.heap.size + 1 + 1 + 1]? = some (.cells #[.int .u64 0, .int .u64 0, .int .u64 0, .int .u64 0, .int .u64 0] 26 (0, 0)) := hp4_3 w _ _ _ _
  have hw : Below w.heap.size w ((((w.alloc (.cells oc 36)).alloc (.cells r 26)).alloc (.cells t 26)).alloc (.cells #[.int .u64 0, .int .u64 0, .int .u64 0, .int .u64 0, .int .u64 0] 26)) := ((((Below.refl _ _).alloc (Nat.le_refl _) _).alloc (by simp) _).alloc (by simp; omega) _).alloc (by simp; omega) _
  clear hz hl ho hN hk hnil
  have f4 : Both ((((w.alloc (.cells oc 36)).alloc (.cells r 26)).alloc (.cells t 26)).alloc (.cells #[.int .u64 0, .int .u64 0, .int .u64 0, .int .u64 0, .int .u64 0] 26)) := (((hF.alloc _).alloc _).alloc _).alloc _
  go_enter Tryd.func7, Tryd.ntmps7
  iterate 15 go_step
  generalize ((((w.alloc (.cells oc 36)).alloc (.cells r 26)).alloc (.cells t 26)).alloc (.cells #[.int .u64 0, .int .u64 0, .int .u64 0, .int .u64 0, .int .u64 0] 26)) = w0 at *
  go_wp2_with (first | (refine wpList_load_want rfl 26 _ rfl (w.heap.size + 1) rfl 26 r (0, 0) _ rp1 Tryd.underlying26 rfl h.info ?_) | (refine wpList_load_want rfl 26 _ rfl (w.heap.size + 1 + 1) rfl 26 t (0, 0) _ rp2 Tryd.underlying26 rfl g.info ?_) | fail)
  refine (c.at _).mono ?_
  rintro e w1 ⟨rfl, hb⟩
  replace rp3 := keep hb rp3
  replace hw := Below.after hw hb
  have hn3 := lt_of_row rp3
  clear hb hc0 f4 rp1 rp2
  go_wp2_with (first | (refine wpList_store_row rfl 26 _ _ rfl (w.heap.size + 1 + 1 + 1) s rfl rfl 26 _ rp3 hs.info (hs.fits rfl) hs.one ?_) | fail)
  exact bodyPost_ret (v := .tuple #[.agg s, .bool true]) (results_row_slot Tryd.results7 _ _ (w.heap.size + 1 + 1 + 1) _ s _ _ (.bool true) rfl (setRow_heap _ _ _ _ _ _ rp3) rfl Tryd.underlying26 rfl hs.info) rfl ⟨rfl, below_setRow hw (by omega) _⟩
set_option maxRecDepth 100000 in
set_option maxHeartbeats 2000000 in
theorem made_10 {oc r t kp : Array Value} {x y N Nk T A B U : Int} {dv : Value} {F : Bool} {bs : List Int} (ho : OpOf oc 10 T A B N dv kp F U) (h : NumOf r x) (g : NumOf t y) (hk : KeyOf kp Nk) (hN : 0 ≤ N ∧ N < 18446744073709551616) (hz : ∀ z ∈ bs, 0 ≤ z ∧ z < 256) (hl : bs.length + 32 ≤ 281474976710656) (hnil : ∀ a l c, dv = .slice a l c → a = none → c = 0) : ∃ s, NumOf s (rval x) ∧ ∀ (w : World), Both w → Bys w dv bs → Calls Tryd.prog 7 #[.agg oc, .agg r, .agg t] w fun e w' => e = .returned (.tuple #[.agg s, .bool true]) ∧ Below w.heap.size w w' := by
  have _hu : _ ∧ _ ∧ _ ∧ _ ∧ _ ∧ _ ∧ _ := ⟨h, g, hk, hN, hz, hl, hnil⟩
  clear _hu
  obtain ⟨s, hs, c⟩ := a_root h
  refine ⟨s, hs, fun w hF hB => ?_⟩
  have hc0 : ((((w.alloc (.cells oc 36)).alloc (.cells r 26)).alloc (.cells t 26)).alloc (.cells #[.int .u64 0, .int .u64 0, .int .u64 0, .int .u64 0, .int .u64 0] 26)).cell? ⟨w.heap.size, 0, none⟩ = some (.int .i64 10) := (cell_of_row _ _ _ _ _ _ (hp4_0 w _ _ _ _)).trans ho.c0
  have rp1 : ((((w.alloc (.cells oc 36)).alloc (.cells r 26)).alloc (.cells t 26)).alloc (.cells #[.int .u64 0, .int .u64 0, .int .u64 0, .int .u64 0, .int .u64 0] 26)).heap[w.heap.size + 1]? = some (.cells r 26 (0, 0)) := hp4_1 w _ _ _ _
  have rp2 : ((((w.alloc (.cells oc 36)).alloc (.cells r 26)).alloc (.cells t 26)).alloc (.cells #[.int .u64 0, .int .u64 0, .int .u64 0, .int .u64 0, .int .u64 0] 26)).heap[w.heap.size + 1 + 1]? = some (.cells t 26 (0, 0)) := hp4_2 w _ _ _ _
  have rp3 : ((((w.alloc (.cells oc 36)).alloc (.cells r 26)).alloc (.cells t 26)).alloc (.cells #[.int .u64 0, .int .u64 0, .int .u64 0, .int .u64 0, .int .u64 0] 26)).heap[w.heap.size + 1 + 1 + 1]? = some (.cells #[.int .u64 0, .int .u64 0, .int .u64 0, .int .u64 0, .int .u64 0] 26 (0, 0)) := hp4_3 w _ _ _ _
  have hw : Below w.heap.size w ((((w.alloc (.cells oc 36)).alloc (.cells r 26)).alloc (.cells t 26)).alloc (.cells #[.int .u64 0, .int .u64 0, .int .u64 0, .int .u64 0, .int .u64 0] 26)) := ((((Below.refl _ _).alloc (Nat.le_refl _) _).alloc (by simp) _).alloc (by simp; omega) _).alloc (by simp; omega) _
  clear hz hl ho hN hk hnil
  have f4 : Both ((((w.alloc (.cells oc 36)).alloc (.cells r 26)).alloc (.cells t 26)).alloc (.cells #[.int .u64 0, .int .u64 0, .int .u64 0, .int .u64 0, .int .u64 0] 26)) := (((hF.alloc _).alloc _).alloc _).alloc _
  go_enter Tryd.func7, Tryd.ntmps7
  iterate 15 go_step
  generalize ((((w.alloc (.cells oc 36)).alloc (.cells r 26)).alloc (.cells t 26)).alloc (.cells #[.int .u64 0, .int .u64 0, .int .u64 0, .int .u64 0, .int .u64 0] 26)) = w0 at *
  go_wp2_with (first | (refine wpList_load_want rfl 26 _ rfl (w.heap.size + 1) rfl 26 r (0, 0) _ rp1 Tryd.underlying26 rfl h.info ?_) | (refine wpList_load_want rfl 26 _ rfl (w.heap.size + 1 + 1) rfl 26 t (0, 0) _ rp2 Tryd.underlying26 rfl g.info ?_) | fail)
  refine (c.at f4).mono ?_
  rintro e w1 ⟨rfl, hb⟩
  replace rp3 := keep hb rp3
  replace hw := Below.after hw hb
  have hn3 := lt_of_row rp3
  clear hb hc0 f4 rp1 rp2
  have rp3' : (w1.alloc (.cells s 26)).heap[w.heap.size + 1 + 1 + 1]? = some (.cells #[.int .u64 0, .int .u64 0, .int .u64 0, .int .u64 0, .int .u64 0] 26 (0, 0)) := keep ((Below.refl _ _).alloc (Nat.le_refl _) _) rp3
  have hw' : Below w.heap.size w (w1.alloc (.cells s 26)) := hw.alloc hw.size _
  go_wp2_with (first | (refine wpList_store_row rfl 26 _ _ rfl (w1.heap.size) s rfl rfl 26 #[.int .u64 0, .int .u64 0, .int .u64 0, .int .u64 0, .int .u64 0] (hp1_0 w1 _) hs.info (hs.fits rfl) hs.one ?_; rw [setRow_alloc_new _ _ _ _ _ _ (by simp)]) | (refine wpList_load_want rfl 26 _ rfl (w1.heap.size) rfl 26 s (0, 0) _ (hp1_0 w1 _) Tryd.underlying26 rfl hs.info ?_) | (refine wpList_store_row rfl 26 _ _ rfl (w.heap.size + 1 + 1 + 1) s rfl rfl 26 _ rp3' hs.info (hs.fits rfl) hs.one ?_) | fail)
  exact bodyPost_ret (v := .tuple #[.agg s, .bool true]) (results_row_slot Tryd.results7 _ _ (w.heap.size + 1 + 1 + 1) _ s _ _ (.bool true) rfl (setRow_heap _ _ _ _ _ _ rp3') rfl Tryd.underlying26 rfl hs.info) rfl ⟨rfl, below_setRow hw' (by omega) _⟩
set_option maxRecDepth 100000 in
set_option maxHeartbeats 2000000 in
theorem made_o {oc r t kp : Array Value} {x y N Nk T A B U K : Int} {dv : Value} {F : Bool} {bs : List Int} (ho : OpOf oc K T A B N dv kp F U) (hK : ¬ (0 ≤ K ∧ K ≤ 10)) (h : NumOf r x) (g : NumOf t y) (hk : KeyOf kp Nk) (hN : 0 ≤ N ∧ N < 18446744073709551616) (hz : ∀ z ∈ bs, 0 ≤ z ∧ z < 256) (hl : bs.length + 32 ≤ 281474976710656) (hnil : ∀ a l c, dv = .slice a l c → a = none → c = 0) : ∃ s, NumOf s x ∧ ∀ (w : World), Both w → Bys w dv bs → Calls Tryd.prog 7 #[.agg oc, .agg r, .agg t] w fun e w' => e = .returned (.tuple #[.agg s, .bool true]) ∧ Below w.heap.size w w' := by
  have _hu : _ ∧ _ ∧ _ ∧ _ ∧ _ ∧ _ ∧ _ := ⟨h, g, hk, hN, hz, hl, hnil⟩
  clear _hu
  refine ⟨r, h, fun w hF hB => ?_⟩
  have hc0 : ((((w.alloc (.cells oc 36)).alloc (.cells r 26)).alloc (.cells t 26)).alloc (.cells #[.int .u64 0, .int .u64 0, .int .u64 0, .int .u64 0, .int .u64 0] 26)).cell? ⟨w.heap.size, 0, none⟩ = some (.int .i64 K) := (cell_of_row _ _ _ _ _ _ (hp4_0 w _ _ _ _)).trans ho.c0
  have rp1 : ((((w.alloc (.cells oc 36)).alloc (.cells r 26)).alloc (.cells t 26)).alloc (.cells #[.int .u64 0, .int .u64 0, .int .u64 0, .int .u64 0, .int .u64 0] 26)).heap[w.heap.size + 1]? = some (.cells r 26 (0, 0)) := hp4_1 w _ _ _ _
  have rp2 : ((((w.alloc (.cells oc 36)).alloc (.cells r 26)).alloc (.cells t 26)).alloc (.cells #[.int .u64 0, .int .u64 0, .int .u64 0, .int .u64 0, .int .u64 0] 26)).heap[w.heap.size + 1 + 1]? = some (.cells t 26 (0, 0)) := hp4_2 w _ _ _ _
  have d0 : (K == 0) = false := by rw [beq_eq_false_iff_ne]; omega
  have d1 : (K == 1) = false := by rw [beq_eq_false_iff_ne]; omega
  have d2 : (K == 2) = false := by rw [beq_eq_false_iff_ne]; omega
  have d3 : (K == 3) = false := by rw [beq_eq_false_iff_ne]; omega
  have d4 : (K == 4) = false := by rw [beq_eq_false_iff_ne]; omega
  have d5 : (K == 5) = false := by rw [beq_eq_false_iff_ne]; omega
  have d6 : (K == 6) = false := by rw [beq_eq_false_iff_ne]; omega
  have d7 : (K == 7) = false := by rw [beq_eq_false_iff_ne]; omega
  have d8 : (K == 8) = false := by rw [beq_eq_false_iff_ne]; omega
  have d9 : (K == 9) = false := by rw [beq_eq_false_iff_ne]; omega
  have d10 : (K == 10) = false := by rw [beq_eq_false_iff_ne]; omega
  have rp3 : ((((w.alloc (.cells oc 36)).alloc (.cells r 26)).alloc (.cells t 26)).alloc (.cells #[.int .u64 0, .int .u64 0, .int .u64 0, .int .u64 0, .int .u64 0] 26)).heap[w.heap.size + 1 + 1 + 1]? = some (.cells #[.int .u64 0, .int .u64 0, .int .u64 0, .int .u64 0, .int .u64 0] 26 (0, 0)) := hp4_3 w _ _ _ _
  have hw : Below w.heap.size w ((((w.alloc (.cells oc 36)).alloc (.cells r 26)).alloc (.cells t 26)).alloc (.cells #[.int .u64 0, .int .u64 0, .int .u64 0, .int .u64 0, .int .u64 0] 26)) := ((((Below.refl _ _).alloc (Nat.le_refl _) _).alloc (by simp) _).alloc (by simp; omega) _).alloc (by simp; omega) _
  clear hz hl ho hN hk hnil
  go_enter Tryd.func7, Tryd.ntmps7
  iterate 15 go_step
  generalize ((((w.alloc (.cells oc 36)).alloc (.cells r 26)).alloc (.cells t 26)).alloc (.cells #[.int .u64 0, .int .u64 0, .int .u64 0, .int .u64 0, .int .u64 0] 26)) = w0 at *
  go_wp2_with (first | (refine wpList_load_want rfl 26 _ rfl (w.heap.size + 1) rfl 26 r (0, 0) _ rp1 Tryd.underlying26 rfl h.info ?_) | (refine wpList_load_want rfl 26 _ rfl (w.heap.size + 1 + 1) rfl 26 t (0, 0) _ rp2 Tryd.underlying26 rfl g.info ?_) | (refine wpList_store_row rfl 26 _ _ rfl (w.heap.size + 1 + 1 + 1) r rfl rfl 26 _ rp3 h.info (h.fits rfl) h.one ?_) | fail)
  exact bodyPost_ret (v := .tuple #[.agg r, .bool true]) (results_row_slot Tryd.results7 _ _ (w.heap.size + 1 + 1 + 1) _ r _ _ (.bool true) rfl (setRow_heap _ _ _ _ _ _ rp3) rfl Tryd.underlying26 rfl h.info) rfl ⟨rfl, below_setRow hw (by omega) _⟩
end Go.Proofs.YtnohfbpmckhbbaaDoor


namespace Go.Proofs.YtnohfbpmckhbbaaDoor
set_option maxRecDepth 100000
open Go.ChangeShapes Go.WideShapes Go.ChangeAt Go.RowKit

theorem bytesB8 : Tryd.prog.bytesOf 5 = 1 := by kernel_rfl
theorem one3 : Tryd.prog.cellsOf 3 = 1 := by kernel_rfl
theorem one23 : Tryd.prog.cellsOf 23 = 1 := by kernel_rfl
theorem one4 : Tryd.prog.cellsOf 4 = 1 := by kernel_rfl
theorem one32 : Tryd.prog.cellsOf 32 = 1 := by kernel_rfl
theorem cells34 : Tryd.prog.cellsOf 34 = 32 := by kernel_rfl
theorem cells36 : Tryd.prog.cellsOf 36 = 40 := by kernel_rfl
theorem take1 {cs : List Value} {k : Nat} {v : Value} (h : (cs.drop k).take 1 = [v]) : cs[k]? = some v := by
  have := congrArg List.head? h
  simpa [List.head?_take, List.head?_drop] using this
theorem block_of {w : World} {b o : Nat} {v : Value} (h : w.cell? ⟨b, o, none⟩ = some v) : b < w.heap.size := by
  rcases Nat.lt_or_ge b w.heap.size with q | q
  · exact q
  · simp [World.cell?, Array.getElem?_eq_none q] at h
theorem key_of (l : List Int) (hl : l.length = 32) (wl : ∀ x ∈ l, (Lit.int .u8 x).wf = true) : ∃ N, KeyOf (l.map (Value.int .u8)).toArray N := by
  obtain ⟨b0, b1, b2, b3, b4, b5, b6, b7, b8, b9, b10, b11, b12, b13, b14, b15, b16, b17, b18, b19, b20, b21, b22, b23, b24, b25, b26, b27, b28, b29, b30, b31, rfl⟩ := list32 l hl
  have bd : ∀ x ∈ [b0, b1, b2, b3, b4, b5, b6, b7, b8, b9, b10, b11, b12, b13, b14, b15, b16, b17, b18, b19, b20, b21, b22, b23, b24, b25, b26, b27, b28, b29, b30, b31], 0 ≤ x ∧ x < 256 := fun x hx => u8_of_wf (wl x hx)
  exact ⟨_, b0, b1, b2, b3, b4, b5, b6, b7, b8, b9, b10, b11, b12, b13, b14, b15, b16, b17, b18, b19, b20, b21, b22, b23, b24, b25, b26, b27, b28, b29, b30, b31, rfl, ⟨bd b0 (by simp), bd b1 (by simp), bd b2 (by simp), bd b3 (by simp), bd b4 (by simp), bd b5 (by simp), bd b6 (by simp), bd b7 (by simp), bd b8 (by simp), bd b9 (by simp), bd b10 (by simp), bd b11 (by simp), bd b12 (by simp), bd b13 (by simp), bd b14 (by simp), bd b15 (by simp), bd b16 (by simp), bd b17 (by simp), bd b18 (by simp), bd b19 (by simp), bd b20 (by simp), bd b21 (by simp), bd b22 (by simp), bd b23 (by simp), bd b24 (by simp), bd b25 (by simp), bd b26 (by simp), bd b27 (by simp), bd b28 (by simp), bd b29 (by simp), bd b30 (by simp), bd b31 (by simp)⟩, rfl⟩
/-- A step's data, and its slice of bytes in a world. -/
def StepOf (W : World) (oc : Array Value) : Prop := ∃ (K T A B N : Int) (dv : Value) (kp : Array Value) (F : Bool) (U Nk : Int) (bs : List Int), OpOf oc K T A B N dv kp F U ∧ KeyOf kp Nk ∧ (0 ≤ N ∧ N < 18446744073709551616) ∧ (∀ z ∈ bs, 0 ≤ z ∧ z < 256) ∧ bs.length + 32 ≤ 281474976710656 ∧ Bys W dv bs ∧ (∀ a l c, dv = .slice a l c → a = none → c = 0)
theorem bys_of_trod {H : Type} {enc : TypeId × Value → H} {W : World} {m : Nat} {v : Value} {x : DataW H × List MemPlace} (hf : DataW.trod enc Tryd.prog W 0 (fun _ => true) true m 32 [v] = some x) (hsz : ∀ n ∈ x.1.weights Tryd.prog 32, n ≤ reachBytes) :
    ∃ bs : List Int, (∀ z ∈ bs, 0 ≤ z ∧ z < 256) ∧ bs.length + 32 ≤ 281474976710656 ∧ Bys W v bs ∧ (∀ a l c, v = .slice a l c → a = none → c = 0) := by
  rcases open_ints Tryd.underlying32 Tryd.underlying5 Tryd.cellsU8 hf with ⟨hcs, hx⟩ | ⟨a, len, cap, zs, hcs, _, hl, hm, hz, hx, hcell, hwz⟩
  · obtain rfl : v = .slice none 0 0 := by simpa using hcs
    exact ⟨[], by simp, by decide, ⟨none, 0, rfl, by decide, fun j hj => by simp at hj, by simp⟩, fun a l c e _ => by cases e; rfl⟩
  · obtain rfl : v = .slice (some a) len cap := by simpa using hcs
    subst hx
    simp only [if_true] at hz
    have hb := hsz _ (by simp only [DataW.weights, Tryd.underlying32]; exact List.mem_cons_self)
    rw [bytesB8] at hb
    simp only [lits, List.length_map, List.length_take, List.length_drop, reachBytes] at hb
    have hlen : (zs.take len).length = len := by rw [List.length_take]; omega
    refine ⟨zs.take len, fun z h => u8_of_wf (hwz z (List.mem_of_mem_take h)), by rw [hlen]; omega, ⟨some a, cap, by rw [hlen], by rw [hlen]; omega, fun j hj => ?_, fun z h => u8_of_wf (hwz z (List.mem_of_mem_take h))⟩, fun a l c e n => by cases e; cases n⟩
    rw [hlen] at hj
    have hc := hcell j (by omega)
    obtain ⟨bb, off, spot⟩ := a
    have hspot : spot = none := by simpa [Addr.add] using World.cell?_spot (hcell 0 (by omega))
    subst hspot
    rw [addr_add] at hc
    refine ⟨bb, off, rfl, block_of hc, ?_⟩
    rw [hc, List.getD_eq_getElem?_getD, List.getD_eq_getElem?_getD, List.getElem?_take_of_lt hj]
theorem ints_of_array {H : Type} {enc : TypeId × Value → H} {W : World} {m : Nat} {cs : List Value} {x : DataW H × List MemPlace} (h : DataW.trod enc Tryd.prog W 0 (fun _ => true) true m 34 cs = some x) :
    ∃ l : List Int, l.length = 32 ∧ cs = l.map (Value.int .u8) ∧ ∀ z ∈ l, (Lit.int .u8 z).wf = true := by
  obtain ⟨xs, m, _, _, hl, hx, hi⟩ := DataW.trod_array Tryd.underlying34 h
  rw [cells34] at hl
  obtain ⟨l, hl', wl⟩ := ints_of cs .u8 (fun i hi' => by
    have hin : i < 32 := by omega
    have h1 := hi i hin
    rw [Tryd.cellsU8] at h1
    have hx' : xs[i]? = some xs[i] := List.getElem?_eq_getElem (by omega)
    rw [hx'] at h1
    obtain ⟨a, e0, _, wa⟩ := DataW.trod_int Tryd.underlying5 h1
    refine ⟨a, ?_, wa⟩
    simp only [Nat.mul_one] at e0
    have q := take1 e0
    rw [List.getElem?_eq_getElem hi'] at q
    exact Option.some.inj q)
  refine ⟨l, ?_, hl', wl⟩
  have : cs.length = l.length := by rw [hl']; simp
  omega
set_option maxRecDepth 100000 in
theorem step_of_trod {H : Type} {enc : TypeId × Value → H} {W : World} {m : Nat} {cs : List Value} {x : DataW H × List MemPlace} (h : DataW.trod enc Tryd.prog W 0 (fun _ => true) true m 36 cs = some x) (hsz : ∀ n ∈ x.1.weights Tryd.prog 36, n ≤ reachBytes) (hone : cs.toArray.all (·.oneCell') = true) : StepOf W cs.toArray := by
  obtain ⟨xs, m, rfl, rfl, hlen, hxl, hf⟩ := DataW.trod_struct Tryd.underlying36 h
  rw [cells36] at hlen
  have g0 := hf 0 _ rfl; have g1 := hf 1 _ rfl; have g2 := hf 2 _ rfl; have g3 := hf 3 _ rfl; have g4 := hf 4 _ rfl; have g5 := hf 5 _ rfl; have g6 := hf 6 _ rfl; have g7 := hf 7 _ rfl; have g8 := hf 8 _ rfl
  clear hf h
  match xs, hxl, g0, g1, g2, g3, g4, g5, g6, g7, g8, hsz with
  | [x0, x1, x2, x3, x4, x5, x6, x7, x8], _, g0, g1, g2, g3, g4, g5, g6, g7, g8, hsz =>
    obtain ⟨K, e0, _, _⟩ := DataW.trod_int Tryd.underlying3 g0
    obtain ⟨T, e1, _, _⟩ := DataW.trod_int Tryd.underlying3 g1
    obtain ⟨A, e2, _, _⟩ := DataW.trod_int Tryd.underlying3 g2
    obtain ⟨B, e3, _, _⟩ := DataW.trod_int Tryd.underlying3 g3
    obtain ⟨N, e4, _, wN⟩ := DataW.trod_int Tryd.underlying23 g4
    obtain ⟨F, e7, _⟩ := DataW.trod_bool Tryd.underlying4 g7
    obtain ⟨U, e8, _, _⟩ := DataW.trod_int Tryd.underlying3 g8
    have c0 : cs[0]? = some (.int .i64 K) := by
      have q : (cs.drop 0).take (Tryd.prog.cellsOf 3) = [.int .i64 K] := e0
      rw [one3] at q
      exact take1 q
    have c1 : cs[1]? = some (.int .i64 T) := by
      have q : (cs.drop 1).take (Tryd.prog.cellsOf 3) = [.int .i64 T] := e1
      rw [one3] at q
      exact take1 q
    have c2 : cs[2]? = some (.int .i64 A) := by
      have q : (cs.drop 2).take (Tryd.prog.cellsOf 3) = [.int .i64 A] := e2
      rw [one3] at q
      exact take1 q
    have c3 : cs[3]? = some (.int .i64 B) := by
      have q : (cs.drop 3).take (Tryd.prog.cellsOf 3) = [.int .i64 B] := e3
      rw [one3] at q
      exact take1 q
    have c4 : cs[4]? = some (.int .u64 N) := by
      have q : (cs.drop 4).take (Tryd.prog.cellsOf 23) = [.int .u64 N] := e4
      rw [one23] at q
      exact take1 q
    have c38 : cs[38]? = some (.bool F) := by
      have q : (cs.drop 38).take (Tryd.prog.cellsOf 4) = [.bool F] := e7
      rw [one4] at q
      exact take1 q
    have c39 : cs[39]? = some (.int .i64 U) := by
      have q : (cs.drop 39).take (Tryd.prog.cellsOf 3) = [.int .i64 U] := e8
      rw [one3] at q
      exact take1 q
    have q6 : DataW.trod enc Tryd.prog W 0 (fun _ => true) true m 34 ((cs.drop 6).take (Tryd.prog.cellsOf 34)) = some x6 := g6
    rw [cells34] at q6
    obtain ⟨l, hl, el, wl⟩ := ints_of_array q6
    obtain ⟨Nk, hk⟩ := key_of l hl wl
    have h5 : 5 < cs.length := by omega
    have q5 : DataW.trod enc Tryd.prog W 0 (fun _ => true) true m 32 ((cs.drop 5).take (Tryd.prog.cellsOf 32)) = some x5 := g5
    rw [one32, List.drop_eq_getElem_cons h5, List.take_succ_cons, List.take_zero] at q5
    obtain ⟨bs, hz, hb, hB, hnil⟩ := bys_of_trod q5 (fun n hn => hsz n (by
      simp only [DataW.weights, Tryd.underlying36]
      exact DataW.weights_mem_each (j := 5) (t := 32) rfl rfl n hn))
    have bN := bounds_u64 wN
    refine ⟨K, T, A, B, N, cs[5], (l.map (Value.int .u8)).toArray, F, U, Nk, bs, ⟨?_, hone, ?_, ?_, ?_, ?_, ?_, ?_, ?_, ?_, ?_⟩, hk, ⟨bN.1, by omega⟩, hz, hb, hB, hnil⟩
    · simpa using hlen
    · simpa using c0
    · simpa using c1
    · simpa using c2
    · simpa using c3
    · simpa using c4
    · simp [h5]
    · rw [← el]; simp
    · simpa using c38
    · simpa using c39
end Go.Proofs.YtnohfbpmckhbbaaDoor

namespace Go.Proofs.YtnohfbpmckhbbaaDoor
set_option maxRecDepth 100000
open Go.RowKit Go.Sort
attribute [local go_sem] setCell_drewN alloc_drewN


/-- The bytes of 2^k - 1. -/
def nl (k : Nat) : List Int := (List.range 32).map fun j => (((2 ^ k - 1) / 256 ^ j % 256 : Nat) : Int)
/-- What stands in the variable one ahead of round k. -/
def onev (k : Nat) : Int := if k = 0 then 1 else if k % 8 = 0 then 0 else ((2 ^ (k % 8) : Nat) : Int)
def one2 (k : Nat) : Int := ((2 ^ (k % 8) : Nat) : Int)
theorem nl_len (k : Nat) : (nl k).length = 32 := by simp [nl]
theorem nl_set : ∀ k, k < 255 → (nl k).set (k / 8) ((nl k).getD (k / 8) 0 + one2 k) = nl (k + 1) := by decide +kernel
theorem nl_bd : ∀ k, k < 255 → 0 ≤ (nl k).getD (k / 8) 0 ∧ (nl k).getD (k / 8) 0 + one2 k < 256 := by decide +kernel
theorem nl_first' : ∀ k, k < 256 → 8 ≤ k → (nl k).getD 0 0 = 255 := by decide +kernel
theorem nl_first (k : Nat) (h : 8 ≤ k) (g : k < 256) : (nl k).getD 0 0 = 255 := nl_first' k g h
theorem nl_all (k : Nat) : ∀ z ∈ nl k, 0 ≤ z ∧ z < 256 := by
  intro z hz
  unfold nl at hz
  obtain ⟨j, _, rfl⟩ := List.mem_map.1 hz
  omega
theorem nl_zero : nl 0 = fillL 0 := by decide +kernel
theorem one_next : ∀ k, k < 255 → onev (k + 1) = one2 k * 2 % 256 := by decide +kernel
theorem one_same : ∀ k, k < 255 → k % 8 ≠ 0 → onev k = one2 k := by decide +kernel
theorem one_zero : ∀ k, k % 8 = 0 → one2 k = 1 := by intro k h; simp [one2, h]
theorem one_bd : ∀ k, 1 ≤ one2 k ∧ one2 k ≤ 128 := by
  intro k
  have : k % 8 < 8 := Nat.mod_lt _ (by decide)
  unfold one2
  generalize k % 8 = r at *
  rcases (by omega : r = 0 ∨ r = 1 ∨ r = 2 ∨ r = 3 ∨ r = 4 ∨ r = 5 ∨ r = 6 ∨ r = 7) with rfl | rfl | rfl | rfl | rfl | rfl | rfl | rfl <;> decide
set_option maxHeartbeats 2000000 in
theorem number_walk (K : Nat) (less : Int) (hK8 : 8 ≤ K) (hK : K ≤ 255) (h0 : 1 ≤ less) (h1 : less ≤ 255) (w : World) : Calls Tryd.prog 54 #[.int .i64 K, .int .i64 less] w fun e w' => ∃ ev, e = .returned ev ∧ Bys w' ev ((nl K).set 0 (255 - (less - 1))) ∧ Below w.heap.size w w' := by
  have hmk : (Instr.makeSlice 32 (.int .i64 32) (.int .i64 32)).run Tryd.prog w = .ok (.slice (some ⟨w.heap.size, 0, none⟩) 32 32) (w.alloc (.cells (brow (fillL 0)) 5)) := by kernel_rfl
  go_enter Tryd.func54, Tryd.ntmps54
  go_wp2
  go_loopw [6, 7] (fun o i wr => ∃ k : Nat, k ≤ K ∧ i = .int .i64 k ∧ o = .int .u8 (onev k) ∧ wr.heap[w.heap.size]? = some (.cells (brow (nl k)) 5 (0, 0)) ∧ Below w.heap.size w wr) (fun _ i _ => K - (intOf i).toNat)
  case atStart => exact ⟨0, by omega, rfl, rfl, by rw [nl_zero]; exact hp1_0 w _, (Below.refl _ _).alloc (Nat.le_refl _) _⟩
  case round =>
    obtain ⟨k, hk, rfl, rfl, r0, hw⟩ := hrel
    by_cases hlt : k < K
    · have hd : decide ((k : Int) < (K : Int)) = true := by simp; omega
      have hc := brow_cell r0 (k := k / 8) (by rw [nl_len]; omega)
      have hf := brow_frozen r0 (k / 8)
      have hz := nl_bd k (by omega)
      have hs := nl_set k (by omega)
      have hn := one_next k (by omega)
      have ho := one_bd k
      have hsame := one_same k (by omega)
      have hone := one_zero k
      generalize (nl k).getD (k / 8) 0 = z at *
      generalize one2 k = o at *
      by_cases h8 : k % 8 = 0
      · have hd8 : ((k : Int) % 8 == 0) = true := by rw [beq_iff_eq]; omega
        have e := hone h8
        subst e
        go_wp2
        go_roundw
        case rel => exact ⟨k + 1, by omega, by go_num, by rw [hn]; rfl, by rw [← hs]; exact brow_set r0 _ _, hw.setCell (Nat.le_refl _) _⟩
        case measure => simp [intOf]; omega
      · have hd8 : ((k : Int) % 8 == 0) = false := by rw [beq_eq_false_iff_ne]; omega
        rw [hsame h8]
        go_wp2
        go_roundw
        case rel => exact ⟨k + 1, by omega, by go_num, by rw [hn], by rw [← hs]; exact brow_set r0 _ _, hw.setCell (Nat.le_refl _) _⟩
        case measure => simp [intOf]; omega
    · obtain rfl : k = K := by omega
      have hd : decide ((k : Int) < (k : Int)) = false := by simp
      have hc := brow_cell r0 (k := 0) (by rw [nl_len]; omega)
      have hf := brow_frozen r0 0
      rw [nl_first k hK8 (by omega)] at hc
      have r1 := brow_set r0 0 (255 - (less - 1))
      have hlen : ((nl k).set 0 (255 - (less - 1))).length = 32 := by rw [List.length_set, nl_len]
      have hB := Bys.of_row r1 (by rw [hlen]; decide) (by
        intro z hz
        rcases List.mem_or_eq_of_mem_set hz with hz | rfl
        · exact nl_all k z hz
        · omega) 32
      rw [hlen] at hB
      clear r1 hlen
      go_wp2
      go_ret
      exact ⟨_, rfl, hB, hw.setCell (Nat.le_refl _) _⟩

end Go.Proofs.YtnohfbpmckhbbaaDoor


namespace Go.Proofs.YtnohfbpmckhbbaaDoor
set_option maxRecDepth 100000
open Go.RowKit Go.Sort
attribute [local go_sem] setCell_drewN alloc_drewN


set_option maxHeartbeats 4000000 in
theorem refFrom_any (b0 b1 b2 b3 b4 b5 b6 b7 b8 b9 b10 b11 b12 b13 b14 b15 b16 b17 b18 b19 b20 b21 b22 b23 b24 b25 b26 b27 b28 b29 b30 b31 : Int) (lo0 : 0 ≤ b0) (hi0 : b0 < 256) (lo1 : 0 ≤ b1) (hi1 : b1 < 256) (lo2 : 0 ≤ b2) (hi2 : b2 < 256) (lo3 : 0 ≤ b3) (hi3 : b3 < 256) (lo4 : 0 ≤ b4) (hi4 : b4 < 256) (lo5 : 0 ≤ b5) (hi5 : b5 < 256) (lo6 : 0 ≤ b6) (hi6 : b6 < 256) (lo7 : 0 ≤ b7) (hi7 : b7 < 256) (lo8 : 0 ≤ b8) (hi8 : b8 < 256) (lo9 : 0 ≤ b9) (hi9 : b9 < 256) (lo10 : 0 ≤ b10) (hi10 : b10 < 256) (lo11 : 0 ≤ b11) (hi11 : b11 < 256) (lo12 : 0 ≤ b12) (hi12 : b12 < 256) (lo13 : 0 ≤ b13) (hi13 : b13 < 256) (lo14 : 0 ≤ b14) (hi14 : b14 < 256) (lo15 : 0 ≤ b15) (hi15 : b15 < 256) (lo16 : 0 ≤ b16) (hi16 : b16 < 256) (lo17 : 0 ≤ b17) (hi17 : b17 < 256) (lo18 : 0 ≤ b18) (hi18 : b18 < 256) (lo19 : 0 ≤ b19) (hi19 : b19 < 256) (lo20 : 0 ≤ b20) (hi20 : b20 < 256) (lo21 : 0 ≤ b21) (hi21 : b21 < 256) (lo22 : 0 ≤ b22) (hi22 : b22 < 256) (lo23 : 0 ≤ b23) (hi23 : b23 < 256) (lo24 : 0 ≤ b24) (hi24 : b24 < 256) (lo25 : 0 ≤ b25) (hi25 : b25 < 256) (lo26 : 0 ≤ b26) (hi26 : b26 < 256) (lo27 : 0 ≤ b27) (hi27 : b27 < 256) (lo28 : 0 ≤ b28) (hi28 : b28 < 256) (lo29 : 0 ≤ b29) (hi29 : b29 < 256) (lo30 : 0 ≤ b30) (hi30 : b30 < 256) (lo31 : 0 ≤ b31) (hi31 : b31 < 256) (w : World) :
    Calls Tryd.prog 24 #[.agg #[.int .u8 b0, .int .u8 b1, .int .u8 b2, .int .u8 b3, .int .u8 b4, .int .u8 b5, .int .u8 b6, .int .u8 b7, .int .u8 b8, .int .u8 b9, .int .u8 b10, .int .u8 b11, .int .u8 b12, .int .u8 b13, .int .u8 b14, .int .u8 b15, .int .u8 b16, .int .u8 b17, .int .u8 b18, .int .u8 b19, .int .u8 b20, .int .u8 b21, .int .u8 b22, .int .u8 b23, .int .u8 b24, .int .u8 b25, .int .u8 b26, .int .u8 b27, .int .u8 b28, .int .u8 b29, .int .u8 b30, .int .u8 b31]] w fun e w' => e = .returned (.agg #[.int .u64 (dg (kv b0 b1 b2 b3 b4 b5 b6 b7 b8 b9 b10 b11 b12 b13 b14 b15 b16 b17 b18 b19 b20 b21 b22 b23 b24 b25 b26 b27 b28 b29 b30 b31 % 57896044618658097711785492504343953926634992332820282019728792003956564819968 % prm) 0), .int .u64 (dg (kv b0 b1 b2 b3 b4 b5 b6 b7 b8 b9 b10 b11 b12 b13 b14 b15 b16 b17 b18 b19 b20 b21 b22 b23 b24 b25 b26 b27 b28 b29 b30 b31 % 57896044618658097711785492504343953926634992332820282019728792003956564819968 % prm) 1), .int .u64 (dg (kv b0 b1 b2 b3 b4 b5 b6 b7 b8 b9 b10 b11 b12 b13 b14 b15 b16 b17 b18 b19 b20 b21 b22 b23 b24 b25 b26 b27 b28 b29 b30 b31 % 57896044618658097711785492504343953926634992332820282019728792003956564819968 % prm) 2), .int .u64 (dg (kv b0 b1 b2 b3 b4 b5 b6 b7 b8 b9 b10 b11 b12 b13 b14 b15 b16 b17 b18 b19 b20 b21 b22 b23 b24 b25 b26 b27 b28 b29 b30 b31 % 57896044618658097711785492504343953926634992332820282019728792003956564819968 % prm) 3), .int .u64 (dg (kv b0 b1 b2 b3 b4 b5 b6 b7 b8 b9 b10 b11 b12 b13 b14 b15 b16 b17 b18 b19 b20 b21 b22 b23 b24 b25 b26 b27 b28 b29 b30 b31 % 57896044618658097711785492504343953926634992332820282019728792003956564819968 % prm) 4), .int .u64 (dg (kv b0 b1 b2 b3 b4 b5 b6 b7 b8 b9 b10 b11 b12 b13 b14 b15 b16 b17 b18 b19 b20 b21 b22 b23 b24 b25 b26 b27 b28 b29 b30 b31 % 57896044618658097711785492504343953926634992332820282019728792003956564819968 % prm) 5), .int .u64 (dg (kv b0 b1 b2 b3 b4 b5 b6 b7 b8 b9 b10 b11 b12 b13 b14 b15 b16 b17 b18 b19 b20 b21 b22 b23 b24 b25 b26 b27 b28 b29 b30 b31 % 57896044618658097711785492504343953926634992332820282019728792003956564819968 % prm) 6), .int .u64 (dg (kv b0 b1 b2 b3 b4 b5 b6 b7 b8 b9 b10 b11 b12 b13 b14 b15 b16 b17 b18 b19 b20 b21 b22 b23 b24 b25 b26 b27 b28 b29 b30 b31 % 57896044618658097711785492504343953926634992332820282019728792003956564819968 % prm) 7), .int .u64 (dg (kv b0 b1 b2 b3 b4 b5 b6 b7 b8 b9 b10 b11 b12 b13 b14 b15 b16 b17 b18 b19 b20 b21 b22 b23 b24 b25 b26 b27 b28 b29 b30 b31 % 57896044618658097711785492504343953926634992332820282019728792003956564819968 % prm) 8), .int .u64 (dg (kv b0 b1 b2 b3 b4 b5 b6 b7 b8 b9 b10 b11 b12 b13 b14 b15 b16 b17 b18 b19 b20 b21 b22 b23 b24 b25 b26 b27 b28 b29 b30 b31 % 57896044618658097711785492504343953926634992332820282019728792003956564819968 % prm) 9), .int .u64 (dg (kv b0 b1 b2 b3 b4 b5 b6 b7 b8 b9 b10 b11 b12 b13 b14 b15 b16 b17 b18 b19 b20 b21 b22 b23 b24 b25 b26 b27 b28 b29 b30 b31 % 57896044618658097711785492504343953926634992332820282019728792003956564819968 % prm) 10), .int .u64 (dg (kv b0 b1 b2 b3 b4 b5 b6 b7 b8 b9 b10 b11 b12 b13 b14 b15 b16 b17 b18 b19 b20 b21 b22 b23 b24 b25 b26 b27 b28 b29 b30 b31 % 57896044618658097711785492504343953926634992332820282019728792003956564819968 % prm) 11), .int .u64 (dg (kv b0 b1 b2 b3 b4 b5 b6 b7 b8 b9 b10 b11 b12 b13 b14 b15 b16 b17 b18 b19 b20 b21 b22 b23 b24 b25 b26 b27 b28 b29 b30 b31 % 57896044618658097711785492504343953926634992332820282019728792003956564819968 % prm) 12), .int .u64 (dg (kv b0 b1 b2 b3 b4 b5 b6 b7 b8 b9 b10 b11 b12 b13 b14 b15 b16 b17 b18 b19 b20 b21 b22 b23 b24 b25 b26 b27 b28 b29 b30 b31 % 57896044618658097711785492504343953926634992332820282019728792003956564819968 % prm) 13), .int .u64 (dg (kv b0 b1 b2 b3 b4 b5 b6 b7 b8 b9 b10 b11 b12 b13 b14 b15 b16 b17 b18 b19 b20 b21 b22 b23 b24 b25 b26 b27 b28 b29 b30 b31 % 57896044618658097711785492504343953926634992332820282019728792003956564819968 % prm) 14), .int .u64 (dg (kv b0 b1 b2 b3 b4 b5 b6 b7 b8 b9 b10 b11 b12 b13 b14 b15 b16 b17 b18 b19 b20 b21 b22 b23 b24 b25 b26 b27 b28 b29 b30 b31 % 57896044618658097711785492504343953926634992332820282019728792003956564819968 % prm) 15)]) ∧ Below w.heap.size w w' := by
  go_enter Tryd.func24, Tryd.ntmps24
  go_wp2
  refine wp_loop_rounds 17 ?_
  rw [rounds_succ]
  go_wp2
  refine wp_region_tail (C := fun w' => ∃ n, w' = World.drewN _ n) 15 _ rfl rfl rfl (by kernel_rfl) (by kernel_rfl) (by kernel_rfl) (by kernel_rfl) ⟨1, rfl⟩ ?_
  dsimp only [List.set, idle]
  repeat (go_big_quiet_step (fail))
  first | refine wpQuiet_nil ?_ | refine wpQuiet_idle rfl rfl rfl ?_
  rintro _ ⟨n0, rfl⟩
  go_wp2
  rw [rounds_succ]
  go_wp2
  refine wp_region_tail (C := fun w' => ∃ n, w' = World.drewN _ n) 15 _ rfl rfl rfl (by kernel_rfl) (by kernel_rfl) (by kernel_rfl) (by kernel_rfl) ⟨1, rfl⟩ ?_
  dsimp only [List.set, idle]
  repeat (go_big_quiet_step (fail))
  first | refine wpQuiet_nil ?_ | refine wpQuiet_idle rfl rfl rfl ?_
  rintro _ ⟨n1, rfl⟩
  go_wp2
  rw [rounds_succ]
  go_wp2
  refine wp_region_tail (C := fun w' => ∃ n, w' = World.drewN _ n) 15 _ rfl rfl rfl (by kernel_rfl) (by kernel_rfl) (by kernel_rfl) (by kernel_rfl) ⟨1, rfl⟩ ?_
  dsimp only [List.set, idle]
  repeat (go_big_quiet_step (fail))
  first | refine wpQuiet_nil ?_ | refine wpQuiet_idle rfl rfl rfl ?_
  rintro _ ⟨n2, rfl⟩
  go_wp2
  rw [rounds_succ]
  go_wp2
  refine wp_region_tail (C := fun w' => ∃ n, w' = World.drewN _ n) 15 _ rfl rfl rfl (by kernel_rfl) (by kernel_rfl) (by kernel_rfl) (by kernel_rfl) ⟨1, rfl⟩ ?_
  dsimp only [List.set, idle]
  repeat (go_big_quiet_step (fail))
  first | refine wpQuiet_nil ?_ | refine wpQuiet_idle rfl rfl rfl ?_
  rintro _ ⟨n3, rfl⟩
  go_wp2
  rw [rounds_succ]
  go_wp2
  refine wp_region_tail (C := fun w' => ∃ n, w' = World.drewN _ n) 15 _ rfl rfl rfl (by kernel_rfl) (by kernel_rfl) (by kernel_rfl) (by kernel_rfl) ⟨1, rfl⟩ ?_
  dsimp only [List.set, idle]
  repeat (go_big_quiet_step (fail))
  first | refine wpQuiet_nil ?_ | refine wpQuiet_idle rfl rfl rfl ?_
  rintro _ ⟨n4, rfl⟩
  go_wp2
  rw [rounds_succ]
  go_wp2
  refine wp_region_tail (C := fun w' => ∃ n, w' = World.drewN _ n) 15 _ rfl rfl rfl (by kernel_rfl) (by kernel_rfl) (by kernel_rfl) (by kernel_rfl) ⟨1, rfl⟩ ?_
  dsimp only [List.set, idle]
  repeat (go_big_quiet_step (fail))
  first | refine wpQuiet_nil ?_ | refine wpQuiet_idle rfl rfl rfl ?_
  rintro _ ⟨n5, rfl⟩
  go_wp2
  rw [rounds_succ]
  go_wp2
  refine wp_region_tail (C := fun w' => ∃ n, w' = World.drewN _ n) 15 _ rfl rfl rfl (by kernel_rfl) (by kernel_rfl) (by kernel_rfl) (by kernel_rfl) ⟨1, rfl⟩ ?_
  dsimp only [List.set, idle]
  repeat (go_big_quiet_step (fail))
  first | refine wpQuiet_nil ?_ | refine wpQuiet_idle rfl rfl rfl ?_
  rintro _ ⟨n6, rfl⟩
  go_wp2
  rw [rounds_succ]
  go_wp2
  refine wp_region_tail (C := fun w' => ∃ n, w' = World.drewN _ n) 15 _ rfl rfl rfl (by kernel_rfl) (by kernel_rfl) (by kernel_rfl) (by kernel_rfl) ⟨1, rfl⟩ ?_
  dsimp only [List.set, idle]
  repeat (go_big_quiet_step (fail))
  first | refine wpQuiet_nil ?_ | refine wpQuiet_idle rfl rfl rfl ?_
  rintro _ ⟨n7, rfl⟩
  go_wp2
  rw [rounds_succ]
  go_wp2
  refine wp_region_tail (C := fun w' => ∃ n, w' = World.drewN _ n) 15 _ rfl rfl rfl (by kernel_rfl) (by kernel_rfl) (by kernel_rfl) (by kernel_rfl) ⟨1, rfl⟩ ?_
  dsimp only [List.set, idle]
  repeat (go_big_quiet_step (fail))
  first | refine wpQuiet_nil ?_ | refine wpQuiet_idle rfl rfl rfl ?_
  rintro _ ⟨n8, rfl⟩
  go_wp2
  rw [rounds_succ]
  go_wp2
  refine wp_region_tail (C := fun w' => ∃ n, w' = World.drewN _ n) 15 _ rfl rfl rfl (by kernel_rfl) (by kernel_rfl) (by kernel_rfl) (by kernel_rfl) ⟨1, rfl⟩ ?_
  dsimp only [List.set, idle]
  repeat (go_big_quiet_step (fail))
  first | refine wpQuiet_nil ?_ | refine wpQuiet_idle rfl rfl rfl ?_
  rintro _ ⟨n9, rfl⟩
  go_wp2
  rw [rounds_succ]
  go_wp2
  refine wp_region_tail (C := fun w' => ∃ n, w' = World.drewN _ n) 15 _ rfl rfl rfl (by kernel_rfl) (by kernel_rfl) (by kernel_rfl) (by kernel_rfl) ⟨1, rfl⟩ ?_
  dsimp only [List.set, idle]
  repeat (go_big_quiet_step (fail))
  first | refine wpQuiet_nil ?_ | refine wpQuiet_idle rfl rfl rfl ?_
  rintro _ ⟨n10, rfl⟩
  go_wp2
  rw [rounds_succ]
  go_wp2
  refine wp_region_tail (C := fun w' => ∃ n, w' = World.drewN _ n) 15 _ rfl rfl rfl (by kernel_rfl) (by kernel_rfl) (by kernel_rfl) (by kernel_rfl) ⟨1, rfl⟩ ?_
  dsimp only [List.set, idle]
  repeat (go_big_quiet_step (fail))
  first | refine wpQuiet_nil ?_ | refine wpQuiet_idle rfl rfl rfl ?_
  rintro _ ⟨n11, rfl⟩
  go_wp2
  rw [rounds_succ]
  go_wp2
  refine wp_region_tail (C := fun w' => ∃ n, w' = World.drewN _ n) 15 _ rfl rfl rfl (by kernel_rfl) (by kernel_rfl) (by kernel_rfl) (by kernel_rfl) ⟨1, rfl⟩ ?_
  dsimp only [List.set, idle]
  repeat (go_big_quiet_step (fail))
  first | refine wpQuiet_nil ?_ | refine wpQuiet_idle rfl rfl rfl ?_
  rintro _ ⟨n12, rfl⟩
  go_wp2
  rw [rounds_succ]
  go_wp2
  refine wp_region_tail (C := fun w' => ∃ n, w' = World.drewN _ n) 15 _ rfl rfl rfl (by kernel_rfl) (by kernel_rfl) (by kernel_rfl) (by kernel_rfl) ⟨1, rfl⟩ ?_
  dsimp only [List.set, idle]
  repeat (go_big_quiet_step (fail))
  first | refine wpQuiet_nil ?_ | refine wpQuiet_idle rfl rfl rfl ?_
  rintro _ ⟨n13, rfl⟩
  go_wp2
  rw [rounds_succ]
  go_wp2
  refine wp_region_tail (C := fun w' => ∃ n, w' = World.drewN _ n) 15 _ rfl rfl rfl (by kernel_rfl) (by kernel_rfl) (by kernel_rfl) (by kernel_rfl) ⟨1, rfl⟩ ?_
  dsimp only [List.set, idle]
  repeat (go_big_quiet_step (fail))
  first | refine wpQuiet_nil ?_ | refine wpQuiet_idle rfl rfl rfl ?_
  rintro _ ⟨n14, rfl⟩
  go_wp2
  rw [rounds_succ]
  go_wp2
  refine wp_region_tail (C := fun w' => ∃ n, w' = World.drewN _ n) 15 _ rfl rfl rfl (by kernel_rfl) (by kernel_rfl) (by kernel_rfl) (by kernel_rfl) ⟨1, rfl⟩ ?_
  dsimp only [List.set, idle]
  repeat (go_big_quiet_step (fail))
  first | refine wpQuiet_nil ?_ | refine wpQuiet_idle rfl rfl rfl ?_
  rintro _ ⟨n15, rfl⟩
  go_wp2
  rw [rounds_succ]
  go_wp2_with (first | (refine wpList_load_row rfl 28 _ rfl (w.heap.size + 1 + 1) rfl 28 #[.int .u64 (b0 + 256 * b1), .int .u64 (b2 + 256 * b3), .int .u64 (b4 + 256 * b5), .int .u64 (b6 + 256 * b7), .int .u64 (b8 + 256 * b9), .int .u64 (b10 + 256 * b11), .int .u64 (b12 + 256 * b13), .int .u64 (b14 + 256 * b15), .int .u64 (b16 + 256 * b17), .int .u64 (b18 + 256 * b19), .int .u64 (b20 + 256 * b21), .int .u64 (b22 + 256 * b23), .int .u64 (b24 + 256 * b25), .int .u64 (b26 + 256 * b27), .int .u64 (b28 + 256 * b29), .int .u64 ((b30 + 256 * b31) % 32768)] (0, 0) _ (by rw [World.heap_drewN, hp3_2]) Tryd.underlying28 rfl (by kernel_rfl) ?_) | fail)
  refine (settle_any _ _ _ _ _ _ _ _ _ _ _ _ _ _ _ _ (by omega) (by omega) (by omega) (by omega) (by omega) (by omega) (by omega) (by omega) (by omega) (by omega) (by omega) (by omega) (by omega) (by omega) (by omega) (by omega) (by omega) (by omega) (by omega) (by omega) (by omega) (by omega) (by omega) (by omega) (by omega) (by omega) (by omega) (by omega) (by omega) (by omega) (by omega) (by omega) _).mono ?_
  rintro e w1 ⟨rfl, hb⟩
  have hsz := hb.size
  simp only [World.heap_drewN, World.size_alloc] at hsz
  have rZ : w1.heap[w.heap.size + 1]? = some (.cells #[.int .u64 0, .int .u64 0, .int .u64 0, .int .u64 0, .int .u64 0, .int .u64 0, .int .u64 0, .int .u64 0, .int .u64 0, .int .u64 0, .int .u64 0, .int .u64 0, .int .u64 0, .int .u64 0, .int .u64 0, .int .u64 0] 30 (0, 0)) := (hb.block _ (by simp)).trans (by rw [World.heap_drewN, hp3_1])
  have hbw : Below w.heap.size w w1 := (below_drN ((((Below.refl _ _).alloc (Nat.le_refl _) _).alloc (by simp) _).alloc (by simp; omega) _) _).trans (hb.mono (by simp; omega))
  clear hb
  rw [kv_v16 b0 b1 b2 b3 b4 b5 b6 b7 b8 b9 b10 b11 b12 b13 b14 b15 b16 b17 b18 b19 b20 b21 b22 b23 b24 b25 b26 b27 b28 b29 b30 b31 lo0 hi0 lo1 hi1 lo2 hi2 lo3 hi3 lo4 hi4 lo5 hi5 lo6 hi6 lo7 hi7 lo8 hi8 lo9 hi9 lo10 hi10 lo11 hi11 lo12 hi12 lo13 hi13 lo14 hi14 lo15 hi15 lo16 hi16 lo17 hi17 lo18 hi18 lo19 hi19 lo20 hi20 lo21 hi21 lo22 hi22 lo23 hi23 lo24 hi24 lo25 hi25 lo26 hi26 lo27 hi27 lo28 hi28 lo29 hi29]
  go_wp2_with (first | (refine wpList_store_row rfl 30 _ _ rfl (w.heap.size + 1) #[.int .u64 (dg (kv b0 b1 b2 b3 b4 b5 b6 b7 b8 b9 b10 b11 b12 b13 b14 b15 b16 b17 b18 b19 b20 b21 b22 b23 b24 b25 b26 b27 b28 b29 b30 b31 % 57896044618658097711785492504343953926634992332820282019728792003956564819968 % prm) 0), .int .u64 (dg (kv b0 b1 b2 b3 b4 b5 b6 b7 b8 b9 b10 b11 b12 b13 b14 b15 b16 b17 b18 b19 b20 b21 b22 b23 b24 b25 b26 b27 b28 b29 b30 b31 % 57896044618658097711785492504343953926634992332820282019728792003956564819968 % prm) 1), .int .u64 (dg (kv b0 b1 b2 b3 b4 b5 b6 b7 b8 b9 b10 b11 b12 b13 b14 b15 b16 b17 b18 b19 b20 b21 b22 b23 b24 b25 b26 b27 b28 b29 b30 b31 % 57896044618658097711785492504343953926634992332820282019728792003956564819968 % prm) 2), .int .u64 (dg (kv b0 b1 b2 b3 b4 b5 b6 b7 b8 b9 b10 b11 b12 b13 b14 b15 b16 b17 b18 b19 b20 b21 b22 b23 b24 b25 b26 b27 b28 b29 b30 b31 % 57896044618658097711785492504343953926634992332820282019728792003956564819968 % prm) 3), .int .u64 (dg (kv b0 b1 b2 b3 b4 b5 b6 b7 b8 b9 b10 b11 b12 b13 b14 b15 b16 b17 b18 b19 b20 b21 b22 b23 b24 b25 b26 b27 b28 b29 b30 b31 % 57896044618658097711785492504343953926634992332820282019728792003956564819968 % prm) 4), .int .u64 (dg (kv b0 b1 b2 b3 b4 b5 b6 b7 b8 b9 b10 b11 b12 b13 b14 b15 b16 b17 b18 b19 b20 b21 b22 b23 b24 b25 b26 b27 b28 b29 b30 b31 % 57896044618658097711785492504343953926634992332820282019728792003956564819968 % prm) 5), .int .u64 (dg (kv b0 b1 b2 b3 b4 b5 b6 b7 b8 b9 b10 b11 b12 b13 b14 b15 b16 b17 b18 b19 b20 b21 b22 b23 b24 b25 b26 b27 b28 b29 b30 b31 % 57896044618658097711785492504343953926634992332820282019728792003956564819968 % prm) 6), .int .u64 (dg (kv b0 b1 b2 b3 b4 b5 b6 b7 b8 b9 b10 b11 b12 b13 b14 b15 b16 b17 b18 b19 b20 b21 b22 b23 b24 b25 b26 b27 b28 b29 b30 b31 % 57896044618658097711785492504343953926634992332820282019728792003956564819968 % prm) 7), .int .u64 (dg (kv b0 b1 b2 b3 b4 b5 b6 b7 b8 b9 b10 b11 b12 b13 b14 b15 b16 b17 b18 b19 b20 b21 b22 b23 b24 b25 b26 b27 b28 b29 b30 b31 % 57896044618658097711785492504343953926634992332820282019728792003956564819968 % prm) 8), .int .u64 (dg (kv b0 b1 b2 b3 b4 b5 b6 b7 b8 b9 b10 b11 b12 b13 b14 b15 b16 b17 b18 b19 b20 b21 b22 b23 b24 b25 b26 b27 b28 b29 b30 b31 % 57896044618658097711785492504343953926634992332820282019728792003956564819968 % prm) 9), .int .u64 (dg (kv b0 b1 b2 b3 b4 b5 b6 b7 b8 b9 b10 b11 b12 b13 b14 b15 b16 b17 b18 b19 b20 b21 b22 b23 b24 b25 b26 b27 b28 b29 b30 b31 % 57896044618658097711785492504343953926634992332820282019728792003956564819968 % prm) 10), .int .u64 (dg (kv b0 b1 b2 b3 b4 b5 b6 b7 b8 b9 b10 b11 b12 b13 b14 b15 b16 b17 b18 b19 b20 b21 b22 b23 b24 b25 b26 b27 b28 b29 b30 b31 % 57896044618658097711785492504343953926634992332820282019728792003956564819968 % prm) 11), .int .u64 (dg (kv b0 b1 b2 b3 b4 b5 b6 b7 b8 b9 b10 b11 b12 b13 b14 b15 b16 b17 b18 b19 b20 b21 b22 b23 b24 b25 b26 b27 b28 b29 b30 b31 % 57896044618658097711785492504343953926634992332820282019728792003956564819968 % prm) 12), .int .u64 (dg (kv b0 b1 b2 b3 b4 b5 b6 b7 b8 b9 b10 b11 b12 b13 b14 b15 b16 b17 b18 b19 b20 b21 b22 b23 b24 b25 b26 b27 b28 b29 b30 b31 % 57896044618658097711785492504343953926634992332820282019728792003956564819968 % prm) 13), .int .u64 (dg (kv b0 b1 b2 b3 b4 b5 b6 b7 b8 b9 b10 b11 b12 b13 b14 b15 b16 b17 b18 b19 b20 b21 b22 b23 b24 b25 b26 b27 b28 b29 b30 b31 % 57896044618658097711785492504343953926634992332820282019728792003956564819968 % prm) 14), .int .u64 (dg (kv b0 b1 b2 b3 b4 b5 b6 b7 b8 b9 b10 b11 b12 b13 b14 b15 b16 b17 b18 b19 b20 b21 b22 b23 b24 b25 b26 b27 b28 b29 b30 b31 % 57896044618658097711785492504343953926634992332820282019728792003956564819968 % prm) 15)] rfl rfl 30 _ rZ (by kernel_rfl) rfl (by kernel_rfl) ?_) | fail)
  exact bodyPost_ret (v := .agg #[.int .u64 (dg (kv b0 b1 b2 b3 b4 b5 b6 b7 b8 b9 b10 b11 b12 b13 b14 b15 b16 b17 b18 b19 b20 b21 b22 b23 b24 b25 b26 b27 b28 b29 b30 b31 % 57896044618658097711785492504343953926634992332820282019728792003956564819968 % prm) 0), .int .u64 (dg (kv b0 b1 b2 b3 b4 b5 b6 b7 b8 b9 b10 b11 b12 b13 b14 b15 b16 b17 b18 b19 b20 b21 b22 b23 b24 b25 b26 b27 b28 b29 b30 b31 % 57896044618658097711785492504343953926634992332820282019728792003956564819968 % prm) 1), .int .u64 (dg (kv b0 b1 b2 b3 b4 b5 b6 b7 b8 b9 b10 b11 b12 b13 b14 b15 b16 b17 b18 b19 b20 b21 b22 b23 b24 b25 b26 b27 b28 b29 b30 b31 % 57896044618658097711785492504343953926634992332820282019728792003956564819968 % prm) 2), .int .u64 (dg (kv b0 b1 b2 b3 b4 b5 b6 b7 b8 b9 b10 b11 b12 b13 b14 b15 b16 b17 b18 b19 b20 b21 b22 b23 b24 b25 b26 b27 b28 b29 b30 b31 % 57896044618658097711785492504343953926634992332820282019728792003956564819968 % prm) 3), .int .u64 (dg (kv b0 b1 b2 b3 b4 b5 b6 b7 b8 b9 b10 b11 b12 b13 b14 b15 b16 b17 b18 b19 b20 b21 b22 b23 b24 b25 b26 b27 b28 b29 b30 b31 % 57896044618658097711785492504343953926634992332820282019728792003956564819968 % prm) 4), .int .u64 (dg (kv b0 b1 b2 b3 b4 b5 b6 b7 b8 b9 b10 b11 b12 b13 b14 b15 b16 b17 b18 b19 b20 b21 b22 b23 b24 b25 b26 b27 b28 b29 b30 b31 % 57896044618658097711785492504343953926634992332820282019728792003956564819968 % prm) 5), .int .u64 (dg (kv b0 b1 b2 b3 b4 b5 b6 b7 b8 b9 b10 b11 b12 b13 b14 b15 b16 b17 b18 b19 b20 b21 b22 b23 b24 b25 b26 b27 b28 b29 b30 b31 % 57896044618658097711785492504343953926634992332820282019728792003956564819968 % prm) 6), .int .u64 (dg (kv b0 b1 b2 b3 b4 b5 b6 b7 b8 b9 b10 b11 b12 b13 b14 b15 b16 b17 b18 b19 b20 b21 b22 b23 b24 b25 b26 b27 b28 b29 b30 b31 % 57896044618658097711785492504343953926634992332820282019728792003956564819968 % prm) 7), .int .u64 (dg (kv b0 b1 b2 b3 b4 b5 b6 b7 b8 b9 b10 b11 b12 b13 b14 b15 b16 b17 b18 b19 b20 b21 b22 b23 b24 b25 b26 b27 b28 b29 b30 b31 % 57896044618658097711785492504343953926634992332820282019728792003956564819968 % prm) 8), .int .u64 (dg (kv b0 b1 b2 b3 b4 b5 b6 b7 b8 b9 b10 b11 b12 b13 b14 b15 b16 b17 b18 b19 b20 b21 b22 b23 b24 b25 b26 b27 b28 b29 b30 b31 % 57896044618658097711785492504343953926634992332820282019728792003956564819968 % prm) 9), .int .u64 (dg (kv b0 b1 b2 b3 b4 b5 b6 b7 b8 b9 b10 b11 b12 b13 b14 b15 b16 b17 b18 b19 b20 b21 b22 b23 b24 b25 b26 b27 b28 b29 b30 b31 % 57896044618658097711785492504343953926634992332820282019728792003956564819968 % prm) 10), .int .u64 (dg (kv b0 b1 b2 b3 b4 b5 b6 b7 b8 b9 b10 b11 b12 b13 b14 b15 b16 b17 b18 b19 b20 b21 b22 b23 b24 b25 b26 b27 b28 b29 b30 b31 % 57896044618658097711785492504343953926634992332820282019728792003956564819968 % prm) 11), .int .u64 (dg (kv b0 b1 b2 b3 b4 b5 b6 b7 b8 b9 b10 b11 b12 b13 b14 b15 b16 b17 b18 b19 b20 b21 b22 b23 b24 b25 b26 b27 b28 b29 b30 b31 % 57896044618658097711785492504343953926634992332820282019728792003956564819968 % prm) 12), .int .u64 (dg (kv b0 b1 b2 b3 b4 b5 b6 b7 b8 b9 b10 b11 b12 b13 b14 b15 b16 b17 b18 b19 b20 b21 b22 b23 b24 b25 b26 b27 b28 b29 b30 b31 % 57896044618658097711785492504343953926634992332820282019728792003956564819968 % prm) 13), .int .u64 (dg (kv b0 b1 b2 b3 b4 b5 b6 b7 b8 b9 b10 b11 b12 b13 b14 b15 b16 b17 b18 b19 b20 b21 b22 b23 b24 b25 b26 b27 b28 b29 b30 b31 % 57896044618658097711785492504343953926634992332820282019728792003956564819968 % prm) 14), .int .u64 (dg (kv b0 b1 b2 b3 b4 b5 b6 b7 b8 b9 b10 b11 b12 b13 b14 b15 b16 b17 b18 b19 b20 b21 b22 b23 b24 b25 b26 b27 b28 b29 b30 b31 % 57896044618658097711785492504343953926634992332820282019728792003956564819968 % prm) 15)]) (results_cell_row Tryd.results24 _ _ (w.heap.size + 1) _ #[.int .u64 (dg (kv b0 b1 b2 b3 b4 b5 b6 b7 b8 b9 b10 b11 b12 b13 b14 b15 b16 b17 b18 b19 b20 b21 b22 b23 b24 b25 b26 b27 b28 b29 b30 b31 % 57896044618658097711785492504343953926634992332820282019728792003956564819968 % prm) 0), .int .u64 (dg (kv b0 b1 b2 b3 b4 b5 b6 b7 b8 b9 b10 b11 b12 b13 b14 b15 b16 b17 b18 b19 b20 b21 b22 b23 b24 b25 b26 b27 b28 b29 b30 b31 % 57896044618658097711785492504343953926634992332820282019728792003956564819968 % prm) 1), .int .u64 (dg (kv b0 b1 b2 b3 b4 b5 b6 b7 b8 b9 b10 b11 b12 b13 b14 b15 b16 b17 b18 b19 b20 b21 b22 b23 b24 b25 b26 b27 b28 b29 b30 b31 % 57896044618658097711785492504343953926634992332820282019728792003956564819968 % prm) 2), .int .u64 (dg (kv b0 b1 b2 b3 b4 b5 b6 b7 b8 b9 b10 b11 b12 b13 b14 b15 b16 b17 b18 b19 b20 b21 b22 b23 b24 b25 b26 b27 b28 b29 b30 b31 % 57896044618658097711785492504343953926634992332820282019728792003956564819968 % prm) 3), .int .u64 (dg (kv b0 b1 b2 b3 b4 b5 b6 b7 b8 b9 b10 b11 b12 b13 b14 b15 b16 b17 b18 b19 b20 b21 b22 b23 b24 b25 b26 b27 b28 b29 b30 b31 % 57896044618658097711785492504343953926634992332820282019728792003956564819968 % prm) 4), .int .u64 (dg (kv b0 b1 b2 b3 b4 b5 b6 b7 b8 b9 b10 b11 b12 b13 b14 b15 b16 b17 b18 b19 b20 b21 b22 b23 b24 b25 b26 b27 b28 b29 b30 b31 % 57896044618658097711785492504343953926634992332820282019728792003956564819968 % prm) 5), .int .u64 (dg (kv b0 b1 b2 b3 b4 b5 b6 b7 b8 b9 b10 b11 b12 b13 b14 b15 b16 b17 b18 b19 b20 b21 b22 b23 b24 b25 b26 b27 b28 b29 b30 b31 % 57896044618658097711785492504343953926634992332820282019728792003956564819968 % prm) 6), .int .u64 (dg (kv b0 b1 b2 b3 b4 b5 b6 b7 b8 b9 b10 b11 b12 b13 b14 b15 b16 b17 b18 b19 b20 b21 b22 b23 b24 b25 b26 b27 b28 b29 b30 b31 % 57896044618658097711785492504343953926634992332820282019728792003956564819968 % prm) 7), .int .u64 (dg (kv b0 b1 b2 b3 b4 b5 b6 b7 b8 b9 b10 b11 b12 b13 b14 b15 b16 b17 b18 b19 b20 b21 b22 b23 b24 b25 b26 b27 b28 b29 b30 b31 % 57896044618658097711785492504343953926634992332820282019728792003956564819968 % prm) 8), .int .u64 (dg (kv b0 b1 b2 b3 b4 b5 b6 b7 b8 b9 b10 b11 b12 b13 b14 b15 b16 b17 b18 b19 b20 b21 b22 b23 b24 b25 b26 b27 b28 b29 b30 b31 % 57896044618658097711785492504343953926634992332820282019728792003956564819968 % prm) 9), .int .u64 (dg (kv b0 b1 b2 b3 b4 b5 b6 b7 b8 b9 b10 b11 b12 b13 b14 b15 b16 b17 b18 b19 b20 b21 b22 b23 b24 b25 b26 b27 b28 b29 b30 b31 % 57896044618658097711785492504343953926634992332820282019728792003956564819968 % prm) 10), .int .u64 (dg (kv b0 b1 b2 b3 b4 b5 b6 b7 b8 b9 b10 b11 b12 b13 b14 b15 b16 b17 b18 b19 b20 b21 b22 b23 b24 b25 b26 b27 b28 b29 b30 b31 % 57896044618658097711785492504343953926634992332820282019728792003956564819968 % prm) 11), .int .u64 (dg (kv b0 b1 b2 b3 b4 b5 b6 b7 b8 b9 b10 b11 b12 b13 b14 b15 b16 b17 b18 b19 b20 b21 b22 b23 b24 b25 b26 b27 b28 b29 b30 b31 % 57896044618658097711785492504343953926634992332820282019728792003956564819968 % prm) 12), .int .u64 (dg (kv b0 b1 b2 b3 b4 b5 b6 b7 b8 b9 b10 b11 b12 b13 b14 b15 b16 b17 b18 b19 b20 b21 b22 b23 b24 b25 b26 b27 b28 b29 b30 b31 % 57896044618658097711785492504343953926634992332820282019728792003956564819968 % prm) 13), .int .u64 (dg (kv b0 b1 b2 b3 b4 b5 b6 b7 b8 b9 b10 b11 b12 b13 b14 b15 b16 b17 b18 b19 b20 b21 b22 b23 b24 b25 b26 b27 b28 b29 b30 b31 % 57896044618658097711785492504343953926634992332820282019728792003956564819968 % prm) 14), .int .u64 (dg (kv b0 b1 b2 b3 b4 b5 b6 b7 b8 b9 b10 b11 b12 b13 b14 b15 b16 b17 b18 b19 b20 b21 b22 b23 b24 b25 b26 b27 b28 b29 b30 b31 % 57896044618658097711785492504343953926634992332820282019728792003956564819968 % prm) 15)] _ _ rfl (setRow_heap _ _ _ _ _ _ rZ) Tryd.underlying30 rfl (by kernel_rfl)) rfl ⟨rfl, below_setRow hbw (by omega) _⟩

end Go.Proofs.YtnohfbpmckhbbaaDoor


namespace Go.Proofs.YtnohfbpmckhbbaaDoor
set_option maxRecDepth 100000
open Go.RowKit Go.Sort
attribute [local go_sem] setCell_drewN alloc_drewN


set_option maxHeartbeats 4000000 in
theorem refBytes_any (x0 x1 x2 x3 x4 x5 x6 x7 x8 x9 x10 x11 x12 x13 x14 x15 : Int) (lo0 : 0 ≤ x0) (hi0 : x0 < 65536) (lo1 : 0 ≤ x1) (hi1 : x1 < 65536) (lo2 : 0 ≤ x2) (hi2 : x2 < 65536) (lo3 : 0 ≤ x3) (hi3 : x3 < 65536) (lo4 : 0 ≤ x4) (hi4 : x4 < 65536) (lo5 : 0 ≤ x5) (hi5 : x5 < 65536) (lo6 : 0 ≤ x6) (hi6 : x6 < 65536) (lo7 : 0 ≤ x7) (hi7 : x7 < 65536) (lo8 : 0 ≤ x8) (hi8 : x8 < 65536) (lo9 : 0 ≤ x9) (hi9 : x9 < 65536) (lo10 : 0 ≤ x10) (hi10 : x10 < 65536) (lo11 : 0 ≤ x11) (hi11 : x11 < 65536) (lo12 : 0 ≤ x12) (hi12 : x12 < 65536) (lo13 : 0 ≤ x13) (hi13 : x13 < 65536) (lo14 : 0 ≤ x14) (hi14 : x14 < 65536) (lo15 : 0 ≤ x15) (hi15 : x15 < 65536) (w : World) :
    Calls Tryd.prog 11 #[.agg #[.int .u64 x0, .int .u64 x1, .int .u64 x2, .int .u64 x3, .int .u64 x4, .int .u64 x5, .int .u64 x6, .int .u64 x7, .int .u64 x8, .int .u64 x9, .int .u64 x10, .int .u64 x11, .int .u64 x12, .int .u64 x13, .int .u64 x14, .int .u64 x15]] w fun e w' => e = .returned (.agg #[.int .u8 (x0 % 256), .int .u8 (x0 / 256), .int .u8 (x1 % 256), .int .u8 (x1 / 256), .int .u8 (x2 % 256), .int .u8 (x2 / 256), .int .u8 (x3 % 256), .int .u8 (x3 / 256), .int .u8 (x4 % 256), .int .u8 (x4 / 256), .int .u8 (x5 % 256), .int .u8 (x5 / 256), .int .u8 (x6 % 256), .int .u8 (x6 / 256), .int .u8 (x7 % 256), .int .u8 (x7 / 256), .int .u8 (x8 % 256), .int .u8 (x8 / 256), .int .u8 (x9 % 256), .int .u8 (x9 / 256), .int .u8 (x10 % 256), .int .u8 (x10 / 256), .int .u8 (x11 % 256), .int .u8 (x11 / 256), .int .u8 (x12 % 256), .int .u8 (x12 / 256), .int .u8 (x13 % 256), .int .u8 (x13 / 256), .int .u8 (x14 % 256), .int .u8 (x14 / 256), .int .u8 (x15 % 256), .int .u8 (x15 / 256)]) ∧ Below w.heap.size w w' := by
  go_enter Tryd.func11, Tryd.ntmps11
  go_wp2
  refine wp_loop_rounds 17 ?_
  rw [rounds_succ]
  go_wp2
  rw [rounds_succ]
  go_wp2
  rw [rounds_succ]
  go_wp2
  rw [rounds_succ]
  go_wp2
  rw [rounds_succ]
  go_wp2
  rw [rounds_succ]
  go_wp2
  rw [rounds_succ]
  go_wp2
  rw [rounds_succ]
  go_wp2
  rw [rounds_succ]
  go_wp2
  rw [rounds_succ]
  go_wp2
  rw [rounds_succ]
  go_wp2
  rw [rounds_succ]
  go_wp2
  rw [rounds_succ]
  go_wp2
  rw [rounds_succ]
  go_wp2
  rw [rounds_succ]
  go_wp2
  rw [rounds_succ]
  go_wp2
  rw [rounds_succ]
  go_wp2_with (first | (refine wpList_load_row rfl 34 _ rfl (w.heap.size + 1 + 1) rfl 34 #[.int .u8 (x0 % 256), .int .u8 (x0 / 256), .int .u8 (x1 % 256), .int .u8 (x1 / 256), .int .u8 (x2 % 256), .int .u8 (x2 / 256), .int .u8 (x3 % 256), .int .u8 (x3 / 256), .int .u8 (x4 % 256), .int .u8 (x4 / 256), .int .u8 (x5 % 256), .int .u8 (x5 / 256), .int .u8 (x6 % 256), .int .u8 (x6 / 256), .int .u8 (x7 % 256), .int .u8 (x7 / 256), .int .u8 (x8 % 256), .int .u8 (x8 / 256), .int .u8 (x9 % 256), .int .u8 (x9 / 256), .int .u8 (x10 % 256), .int .u8 (x10 / 256), .int .u8 (x11 % 256), .int .u8 (x11 / 256), .int .u8 (x12 % 256), .int .u8 (x12 / 256), .int .u8 (x13 % 256), .int .u8 (x13 / 256), .int .u8 (x14 % 256), .int .u8 (x14 / 256), .int .u8 (x15 % 256), .int .u8 (x15 / 256)] (0, 0) _ (hp3_2 w _ _ _) Tryd.underlying34 rfl (by kernel_rfl) ?_) | (refine wpList_store_row rfl 34 _ _ rfl (w.heap.size + 1) #[.int .u8 (x0 % 256), .int .u8 (x0 / 256), .int .u8 (x1 % 256), .int .u8 (x1 / 256), .int .u8 (x2 % 256), .int .u8 (x2 / 256), .int .u8 (x3 % 256), .int .u8 (x3 / 256), .int .u8 (x4 % 256), .int .u8 (x4 / 256), .int .u8 (x5 % 256), .int .u8 (x5 / 256), .int .u8 (x6 % 256), .int .u8 (x6 / 256), .int .u8 (x7 % 256), .int .u8 (x7 / 256), .int .u8 (x8 % 256), .int .u8 (x8 / 256), .int .u8 (x9 % 256), .int .u8 (x9 / 256), .int .u8 (x10 % 256), .int .u8 (x10 / 256), .int .u8 (x11 % 256), .int .u8 (x11 / 256), .int .u8 (x12 % 256), .int .u8 (x12 / 256), .int .u8 (x13 % 256), .int .u8 (x13 / 256), .int .u8 (x14 % 256), .int .u8 (x14 / 256), .int .u8 (x15 % 256), .int .u8 (x15 / 256)] rfl rfl 34 _ (hp3_1 w _ _ _) (by kernel_rfl) rfl (by kernel_rfl) ?_))
  exact bodyPost_ret (v := .agg #[.int .u8 (x0 % 256), .int .u8 (x0 / 256), .int .u8 (x1 % 256), .int .u8 (x1 / 256), .int .u8 (x2 % 256), .int .u8 (x2 / 256), .int .u8 (x3 % 256), .int .u8 (x3 / 256), .int .u8 (x4 % 256), .int .u8 (x4 / 256), .int .u8 (x5 % 256), .int .u8 (x5 / 256), .int .u8 (x6 % 256), .int .u8 (x6 / 256), .int .u8 (x7 % 256), .int .u8 (x7 / 256), .int .u8 (x8 % 256), .int .u8 (x8 / 256), .int .u8 (x9 % 256), .int .u8 (x9 / 256), .int .u8 (x10 % 256), .int .u8 (x10 / 256), .int .u8 (x11 % 256), .int .u8 (x11 / 256), .int .u8 (x12 % 256), .int .u8 (x12 / 256), .int .u8 (x13 % 256), .int .u8 (x13 / 256), .int .u8 (x14 % 256), .int .u8 (x14 / 256), .int .u8 (x15 % 256), .int .u8 (x15 / 256)]) (results_cell_row Tryd.results11 _ _ (w.heap.size + 1) _ #[.int .u8 (x0 % 256), .int .u8 (x0 / 256), .int .u8 (x1 % 256), .int .u8 (x1 / 256), .int .u8 (x2 % 256), .int .u8 (x2 / 256), .int .u8 (x3 % 256), .int .u8 (x3 / 256), .int .u8 (x4 % 256), .int .u8 (x4 / 256), .int .u8 (x5 % 256), .int .u8 (x5 / 256), .int .u8 (x6 % 256), .int .u8 (x6 / 256), .int .u8 (x7 % 256), .int .u8 (x7 / 256), .int .u8 (x8 % 256), .int .u8 (x8 / 256), .int .u8 (x9 % 256), .int .u8 (x9 / 256), .int .u8 (x10 % 256), .int .u8 (x10 / 256), .int .u8 (x11 % 256), .int .u8 (x11 / 256), .int .u8 (x12 % 256), .int .u8 (x12 / 256), .int .u8 (x13 % 256), .int .u8 (x13 / 256), .int .u8 (x14 % 256), .int .u8 (x14 / 256), .int .u8 (x15 % 256), .int .u8 (x15 / 256)] _ _ rfl (setRow_heap _ _ _ _ _ _ (hp3_1 w _ _ _)) Tryd.underlying34 rfl (by kernel_rfl)) rfl ⟨rfl, below_setRow ((((Below.refl _ _).alloc (Nat.le_refl _) _).alloc (by simp) _).alloc (by simp; omega) _) (by omega) _⟩

theorem refBytes_dg (m : Int) (w : World) :
    Calls Tryd.prog 11 #[.agg #[.int .u64 (dg m 0), .int .u64 (dg m 1), .int .u64 (dg m 2), .int .u64 (dg m 3), .int .u64 (dg m 4), .int .u64 (dg m 5), .int .u64 (dg m 6), .int .u64 (dg m 7), .int .u64 (dg m 8), .int .u64 (dg m 9), .int .u64 (dg m 10), .int .u64 (dg m 11), .int .u64 (dg m 12), .int .u64 (dg m 13), .int .u64 (dg m 14), .int .u64 (dg m 15)]] w fun e w' => e = .returned (.agg #[.int .u8 (byt m 0), .int .u8 (byt m 1), .int .u8 (byt m 2), .int .u8 (byt m 3), .int .u8 (byt m 4), .int .u8 (byt m 5), .int .u8 (byt m 6), .int .u8 (byt m 7), .int .u8 (byt m 8), .int .u8 (byt m 9), .int .u8 (byt m 10), .int .u8 (byt m 11), .int .u8 (byt m 12), .int .u8 (byt m 13), .int .u8 (byt m 14), .int .u8 (byt m 15), .int .u8 (byt m 16), .int .u8 (byt m 17), .int .u8 (byt m 18), .int .u8 (byt m 19), .int .u8 (byt m 20), .int .u8 (byt m 21), .int .u8 (byt m 22), .int .u8 (byt m 23), .int .u8 (byt m 24), .int .u8 (byt m 25), .int .u8 (byt m 26), .int .u8 (byt m 27), .int .u8 (byt m 28), .int .u8 (byt m 29), .int .u8 (byt m 30), .int .u8 (byt m 31)]) ∧ Below w.heap.size w w' := by
  have h := refBytes_any (dg m 0) (dg m 1) (dg m 2) (dg m 3) (dg m 4) (dg m 5) (dg m 6) (dg m 7) (dg m 8) (dg m 9) (dg m 10) (dg m 11) (dg m 12) (dg m 13) (dg m 14) (dg m 15) (dg_bd m 0).1 (dg_bd m 0).2 (dg_bd m 1).1 (dg_bd m 1).2 (dg_bd m 2).1 (dg_bd m 2).2 (dg_bd m 3).1 (dg_bd m 3).2 (dg_bd m 4).1 (dg_bd m 4).2 (dg_bd m 5).1 (dg_bd m 5).2 (dg_bd m 6).1 (dg_bd m 6).2 (dg_bd m 7).1 (dg_bd m 7).2 (dg_bd m 8).1 (dg_bd m 8).2 (dg_bd m 9).1 (dg_bd m 9).2 (dg_bd m 10).1 (dg_bd m 10).2 (dg_bd m 11).1 (dg_bd m 11).2 (dg_bd m 12).1 (dg_bd m 12).2 (dg_bd m 13).1 (dg_bd m 13).2 (dg_bd m 14).1 (dg_bd m 14).2 (dg_bd m 15).1 (dg_bd m 15).2 w
  simp only [dg_low, dg_high] at h
  exact h

end Go.Proofs.YtnohfbpmckhbbaaDoor


namespace Go.Proofs.YtnohfbpmckhbbaaDoor
set_option maxRecDepth 100000
open Go.RowKit Go.Sort
attribute [local go_sem] setCell_drewN alloc_drewN


/-- The cells of the document's number m. -/
def rd (m : Int) : Array Value := #[.int .u64 (dg m 0), .int .u64 (dg m 1), .int .u64 (dg m 2), .int .u64 (dg m 3), .int .u64 (dg m 4), .int .u64 (dg m 5), .int .u64 (dg m 6), .int .u64 (dg m 7), .int .u64 (dg m 8), .int .u64 (dg m 9), .int .u64 (dg m 10), .int .u64 (dg m 11), .int .u64 (dg m 12), .int .u64 (dg m 13), .int .u64 (dg m 14), .int .u64 (dg m 15)]
theorem rd_size (m : Int) : (rd m).size = 16 := rfl
theorem rd_one (m : Int) : (rd m).all (·.oneCell') = true := by kernel_rfl
theorem ref_info : (Tryd.prog.info? 30).map (·.size) = some 16 := by kernel_rfl
theorem rd_info (m : Int) : (Tryd.prog.info? 30).map (·.size) = some (rd m).size := ref_info
theorem rd_zero : rd 0 = #[.int .u64 0, .int .u64 0, .int .u64 0, .int .u64 0, .int .u64 0, .int .u64 0, .int .u64 0, .int .u64 0, .int .u64 0, .int .u64 0, .int .u64 0, .int .u64 0, .int .u64 0, .int .u64 0, .int .u64 0, .int .u64 0] := by simp [rd, dg]
/-- Below P. -/
def inP (m : Int) : Prop := 0 ≤ m ∧ m < prm
theorem inP_mod (x : Int) : inP (x % prm) := by unfold inP prm; omega
theorem r_from {k : Array Value} {N : Int} (h : KeyOf k N) : Gives 24 #[.agg k] (.agg (rd (N % 57896044618658097711785492504343953926634992332820282019728792003956564819968 % prm))) := by
  obtain ⟨k0, k1, k2, k3, k4, k5, k6, k7, k8, k9, k10, k11, k12, k13, k14, k15, k16, k17, k18, k19, k20, k21, k22, k23, k24, k25, k26, k27, k28, k29, k30, k31, rfl, ⟨h0, h1, h2, h3, h4, h5, h6, h7, h8, h9, h10, h11, h12, h13, h14, h15, h16, h17, h18, h19, h20, h21, h22, h23, h24, h25, h26, h27, h28, h29, h30, h31⟩, rfl⟩ := h
  exact fun W => refFrom_any k0 k1 k2 k3 k4 k5 k6 k7 k8 k9 k10 k11 k12 k13 k14 k15 k16 k17 k18 k19 k20 k21 k22 k23 k24 k25 k26 k27 k28 k29 k30 k31 h0.1 h0.2 h1.1 h1.2 h2.1 h2.2 h3.1 h3.2 h4.1 h4.2 h5.1 h5.2 h6.1 h6.2 h7.1 h7.2 h8.1 h8.2 h9.1 h9.2 h10.1 h10.2 h11.1 h11.2 h12.1 h12.2 h13.1 h13.2 h14.1 h14.2 h15.1 h15.2 h16.1 h16.2 h17.1 h17.2 h18.1 h18.2 h19.1 h19.2 h20.1 h20.2 h21.1 h21.2 h22.1 h22.2 h23.1 h23.2 h24.1 h24.2 h25.1 h25.2 h26.1 h26.2 h27.1 h27.2 h28.1 h28.2 h29.1 h29.2 h30.1 h30.2 h31.1 h31.2 W
theorem r_bytes (m : Int) : Gives 11 #[.agg (rd m)] (.agg (kb m)) := fun W => refBytes_dg m W
theorem r_mul {m q : Int} (h : inP m) (g : inP q) : Gives 28 #[.agg (rd m), .agg (rd q)] (.agg (rd (m * q % prm))) := fun W => refMul_dg m q h.1 h.2 g.1 g.2 W
theorem r_small (x : Int) (l : 0 ≤ x) (u : x < 18446744073709551616) : Gives 13 #[.int .u64 x] (.agg (rd x)) := fun W => refSmall_any x l u W
theorem r_times {m : Int} (h : inP m) (x : Int) (l : 0 ≤ x) (u : x < 4294967296) : Gives 30 #[.agg (rd m), .int .u32 x] (.agg (rd (m * x % prm))) := fun W => refTimes_any m x h.1 h.2 l u W
set_option maxHeartbeats 1000000 in
theorem r_square {m : Int} (h : inP m) : Gives 29 #[.agg (rd m)] (.agg (rd (m * m % prm))) := by
  have c := r_mul h h
  generalize m * m % prm = q at *
  intro w
  go_enter Tryd.func29, Tryd.ntmps29
  go_wp2_with (first | (refine wpList_load_row rfl 30 _ rfl w.heap.size rfl 30 (rd m) (0, 0) _ (hp2_0 w _ _) Tryd.underlying30 rfl (rd_info m) ?_) | fail)
  refine (c.at _).mono ?_
  rintro e w1 ⟨rfl, hb⟩
  have rZ : w1.heap[w.heap.size + 1]? = some (.cells #[.int .u64 0, .int .u64 0, .int .u64 0, .int .u64 0, .int .u64 0, .int .u64 0, .int .u64 0, .int .u64 0, .int .u64 0, .int .u64 0, .int .u64 0, .int .u64 0, .int .u64 0, .int .u64 0, .int .u64 0, .int .u64 0] 30 (0, 0)) := (hb.block _ (by simp)).trans (hp2_1 w _ _)
  have hbw : Below w.heap.size w w1 := (((Below.refl _ _).alloc (Nat.le_refl _) _).alloc (by simp) _).trans (hb.mono (by simp; omega))
  clear hb
  go_wp2_with (first | (refine wpList_store_row rfl 30 _ _ rfl (w.heap.size + 1) (rd q) rfl rfl 30 _ rZ (rd_info q) rfl (rd_one q) ?_) | fail)
  exact bodyPost_ret (v := .agg (rd q)) (results_cell_row Tryd.results29 _ _ (w.heap.size + 1) _ (rd q) _ _ rfl (setRow_heap _ _ _ _ _ _ rZ) Tryd.underlying30 rfl (rd_info q)) rfl ⟨rfl, below_setRow hbw (by omega) _⟩

end Go.Proofs.YtnohfbpmckhbbaaDoor


namespace Go.Proofs.YtnohfbpmckhbbaaDoor
set_option maxRecDepth 100000
open Go.RowKit Go.Sort
attribute [local go_sem] setCell_drewN alloc_drewN


theorem sq_pow (m : Int) (e : Nat) : m ^ e % prm * (m ^ e % prm) % prm = m ^ (e + e) % prm := by rw [← Int.mul_emod, ← Int.pow_add]
theorem mul_pow1 (m : Int) (e : Nat) : m ^ e % prm * m % prm = m ^ (e + 1) % prm := by rw [Int.mul_emod, Int.emod_emod, ← Int.mul_emod, ← Int.pow_succ]
theorem bit8 (z : Int) (j : Nat) (h0 : 0 ≤ z) (h1 : z < 256) (hj : j < 8) : (128 ≤ z * 2 ^ j % 256 ↔ z.toNat / 2 ^ (7 - j) % 2 = 1) ∧ z * 2 ^ j % 256 % 128 * 2 = z * 2 ^ (j + 1) % 256 ∧ z.toNat / 2 ^ (7 - j) / 2 = z.toNat / 2 ^ (8 - j) ∧ 8 - (j + 1) = 7 - j := by
  rcases (by omega : j = 0 ∨ j = 1 ∨ j = 2 ∨ j = 3 ∨ j = 4 ∨ j = 5 ∨ j = 6 ∨ j = 7) with rfl | rfl | rfl | rfl | rfl | rfl | rfl | rfl <;> simp <;> omega
set_option maxHeartbeats 4000000 in
set_option maxRecDepth 10000 in
theorem r_power {m : Int} (h : inP m) (bs : List Int) (w : World) (ev : Value) (hB : Bys w ev bs) :
    Calls Tryd.prog 31 #[.agg (rd m), ev] w fun e w' => e = .returned (.agg (rd (m ^ bval bs % prm))) ∧ Below w.heap.size w w' := by
  obtain ⟨ao, cap, rfl, hl, hc, hz⟩ := hB
  have hall := topv_all bs
  have co := r_small 1 (by decide) (by decide)
  have zinfo : (Tryd.prog.info? 30).map (·.size) = some (#[.int .u64 0, .int .u64 0, .int .u64 0, .int .u64 0, .int .u64 0, .int .u64 0, .int .u64 0, .int .u64 0, .int .u64 0, .int .u64 0, .int .u64 0, .int .u64 0, .int .u64 0, .int .u64 0, .int .u64 0, .int .u64 0] : Array Value).size := rd_info 0
  generalize hlen : bs.length = len at *
  go_enter Tryd.func31, Tryd.ntmps31
  go_wp2_with (first | (refine wpList_load_want rfl 30 _ rfl (w.heap.size) rfl 30 (rd m) (0, 0) _ (hp2_0 w _ _) Tryd.underlying30 rfl (rd_info m) ?_) | (refine wpList_load_want rfl 30 _ rfl (w.heap.size + 1) rfl 30 #[.int .u64 0, .int .u64 0, .int .u64 0, .int .u64 0, .int .u64 0, .int .u64 0, .int .u64 0, .int .u64 0, .int .u64 0, .int .u64 0, .int .u64 0, .int .u64 0, .int .u64 0, .int .u64 0, .int .u64 0, .int .u64 0] (0, 0) _ (hp2_1 w _ _) Tryd.underlying30 rfl zinfo ?_) | fail)
  have rp0 : ((w.alloc (.cells (rd m) 30)).alloc (.cells #[.int .u64 0, .int .u64 0, .int .u64 0, .int .u64 0, .int .u64 0, .int .u64 0, .int .u64 0, .int .u64 0, .int .u64 0, .int .u64 0, .int .u64 0, .int .u64 0, .int .u64 0, .int .u64 0, .int .u64 0, .int .u64 0] 30)).heap[w.heap.size]? = some (.cells (rd m) 30 (0, 0)) := hp2_0 w _ _
  have rp1 : ((w.alloc (.cells (rd m) 30)).alloc (.cells #[.int .u64 0, .int .u64 0, .int .u64 0, .int .u64 0, .int .u64 0, .int .u64 0, .int .u64 0, .int .u64 0, .int .u64 0, .int .u64 0, .int .u64 0, .int .u64 0, .int .u64 0, .int .u64 0, .int .u64 0, .int .u64 0] 30)).heap[w.heap.size + 1]? = some (.cells #[.int .u64 0, .int .u64 0, .int .u64 0, .int .u64 0, .int .u64 0, .int .u64 0, .int .u64 0, .int .u64 0, .int .u64 0, .int .u64 0, .int .u64 0, .int .u64 0, .int .u64 0, .int .u64 0, .int .u64 0, .int .u64 0] 30 (0, 0)) := hp2_1 w _ _
  have hw : Below w.heap.size w ((w.alloc (.cells (rd m) 30)).alloc (.cells #[.int .u64 0, .int .u64 0, .int .u64 0, .int .u64 0, .int .u64 0, .int .u64 0, .int .u64 0, .int .u64 0, .int .u64 0, .int .u64 0, .int .u64 0, .int .u64 0, .int .u64 0, .int .u64 0, .int .u64 0, .int .u64 0] 30)) := (((Below.refl _ _).alloc (Nat.le_refl _) _).alloc (by simp) _)
  generalize ((w.alloc (.cells (rd m) 30)).alloc (.cells #[.int .u64 0, .int .u64 0, .int .u64 0, .int .u64 0, .int .u64 0, .int .u64 0, .int .u64 0, .int .u64 0, .int .u64 0, .int .u64 0, .int .u64 0, .int .u64 0, .int .u64 0, .int .u64 0, .int .u64 0, .int .u64 0] 30)) = w0 at *
  refine (co.at _).mono ?_
  rintro e w2 ⟨rfl, hb⟩
  replace rp0 := keep hb rp0
  replace rp1 := keep hb rp1
  replace hw := Below.after hw hb
  clear hb
  go_wp2_with (first | (refine wpList_store_row rfl 30 _ _ rfl (w2.heap.size) (rd 1) rfl rfl 30 #[.int .u64 0, .int .u64 0, .int .u64 0, .int .u64 0, .int .u64 0, .int .u64 0, .int .u64 0, .int .u64 0, .int .u64 0, .int .u64 0, .int .u64 0, .int .u64 0, .int .u64 0, .int .u64 0, .int .u64 0, .int .u64 0] (hp1_0 w2 _) (rd_info 1) rfl (rd_one 1) ?_; rw [setRow_alloc_new _ _ _ _ _ _ (by simp)]) | fail | fail)
  have rl5 : (w2.alloc (.cells (rd 1) 30)).heap[w2.heap.size]? = some (.cells (rd 1) 30 (0, 0)) := hp1_0 w2 _
  have hb : Below w2.heap.size w2 (w2.alloc (.cells (rd 1) 30)) := ((Below.refl _ _).alloc (Nat.le_refl _) _)
  generalize (w2.alloc (.cells (rd 1) 30)) = wa at *
  have yg5_0 := lt_of_row rp0
  have yg5_1 := lt_of_row rp1
  have yg5 := hw.size
  replace rp0 := keep hb rp0
  replace rp1 := keep hb rp1
  replace hw := Below.after hw hb
  clear hb
  generalize w2.heap.size = g5 at *
  clear w2
  go_loopw [6] (fun i wr => ∃ k : Nat, k ≤ len ∧ i = .int .i64 ((len : Int) - 1 - k) ∧ wr.heap[w.heap.size]? = some (.cells (rd m) 30 (0, 0)) ∧ wr.heap[w.heap.size + 1]? = some (.cells #[.int .u64 0, .int .u64 0, .int .u64 0, .int .u64 0, .int .u64 0, .int .u64 0, .int .u64 0, .int .u64 0, .int .u64 0, .int .u64 0, .int .u64 0, .int .u64 0, .int .u64 0, .int .u64 0, .int .u64 0, .int .u64 0] 30 (0, 0)) ∧ wr.heap[g5]? = some (.cells (rd (m ^ topv bs k % prm)) 30 (0, 0)) ∧ Below w.heap.size w wr) (fun i _ => (intOf i + 1).toNat)
  case atStart => exact ⟨0, by omega, by go_num, rp0, rp1, by rw [topv_zero, Int.pow_zero, show (1 : Int) % prm = 1 by decide]; exact rl5, hw⟩
  case round =>
    clear rp0 rp1 rl5 hw
    obtain ⟨k, hk, rfl, rp0, rp1, rl5, hw⟩ := hrel
    by_cases hlt : k < len
    · have hi : (len : Int) - 1 - k = ((len - 1 - k : Nat) : Int) := by omega
      rw [hi]
      obtain ⟨b, off, rfl, hb1, hb2⟩ := hc (len - 1 - k) (by omega)
      replace hb2 := (hw.cell hb1).trans hb2
      have hbat := bat_bd hz (k := k) (by omega)
      have htop := topv_succ (bs := bs) (k := k) (by omega)
      rw [show bs.getD (len - 1 - k) 0 = bat bs k by unfold bat; rw [hlen]] at hb2
      generalize bat bs k = z at *
      generalize topv bs k = E at *
      go_wp2
      go_loopw [7, 8] (fun x i wv => ∃ j : Nat, j ≤ 8 ∧ i = .int .i64 j ∧ x = .int .u8 (z * 2 ^ j % 256) ∧ wv.heap[w.heap.size]? = some (.cells (rd m) 30 (0, 0)) ∧ wv.heap[w.heap.size + 1]? = some (.cells #[.int .u64 0, .int .u64 0, .int .u64 0, .int .u64 0, .int .u64 0, .int .u64 0, .int .u64 0, .int .u64 0, .int .u64 0, .int .u64 0, .int .u64 0, .int .u64 0, .int .u64 0, .int .u64 0, .int .u64 0, .int .u64 0] 30 (0, 0)) ∧ wv.heap[g5]? = some (.cells (rd (m ^ (E * 2 ^ j + z.toNat / 2 ^ (8 - j)) % prm)) 30 (0, 0)) ∧ Below w.heap.size w wv) (fun _ i _ => 8 - (intOf i).toNat)
      case atStart =>
        refine ⟨0, by omega, rfl, ?_, rp0, rp1, ?_, hw⟩
        · rw [Int.pow_zero, Int.mul_one, Int.emod_eq_of_lt hbat.1 hbat.2]
        · rw [show E * 2 ^ 0 + z.toNat / 2 ^ (8 - 0) = E by omega]; exact rl5
      case round =>
        clear rp0 rp1 rl5 hw hb2
        obtain ⟨j, hj, rfl, rfl, rp0, rp1, rl5, hw⟩ := hrel
        by_cases hlj : j < 8
        · have hdj : decide ((j : Int) < 8) = true := by simp; omega
          obtain ⟨hbit, hnext, hhalf, h7⟩ := bit8 z j hbat.1 hbat.2 hlj
          have cs := r_square (inP_mod (m ^ (E * 2 ^ j + z.toNat / 2 ^ (8 - j))))
          rw [sq_pow] at cs
          have cm := r_mul (inP_mod (m ^ (E * 2 ^ j + z.toNat / 2 ^ (8 - j) + (E * 2 ^ j + z.toNat / 2 ^ (8 - j))))) h
          rw [mul_pow1] at cm
          have h2 : E * 2 ^ (j + 1) = E * 2 ^ j + E * 2 ^ j := by rw [Nat.pow_succ, ← Nat.mul_assoc]; omega
          have hst : E * 2 ^ (j + 1) + z.toNat / 2 ^ (8 - (j + 1)) = if z.toNat / 2 ^ (7 - j) % 2 = 1 then E * 2 ^ j + z.toNat / 2 ^ (8 - j) + (E * 2 ^ j + z.toNat / 2 ^ (8 - j)) + 1 else E * 2 ^ j + z.toNat / 2 ^ (8 - j) + (E * 2 ^ j + z.toNat / 2 ^ (8 - j)) := by
            rw [h7, h2, ← hhalf]
            split <;> omega
          have hx0 : 0 ≤ z * 2 ^ j % 256 ∧ z * 2 ^ j % 256 < 256 := by omega
          generalize he2 : E * 2 ^ (j + 1) + z.toNat / 2 ^ (8 - (j + 1)) = e2 at *
          generalize E * 2 ^ j + z.toNat / 2 ^ (8 - j) = e1 at *
          generalize hx1 : z * 2 ^ (j + 1) % 256 = x1 at *
          generalize z * 2 ^ j % 256 = x0 at *
          go_wp2_with (first | (refine wpList_load_want rfl 30 _ rfl (g5) rfl 30 (rd (m ^ e1 % prm)) (0, 0) _ rl5 Tryd.underlying30 rfl (rd_info _) ?_) | fail)
          refine (cs.at _).mono ?_
          rintro e w1 ⟨rfl, hb⟩
          replace rp0 := keep hb rp0
          replace rp1 := keep hb rp1
          replace rl5 := keep hb rl5
          replace hw := Below.after hw hb
          clear hb
          by_cases hge : 128 ≤ x0
          · have hg : decide (128 ≤ x0) = true := decide_eq_true hge
            rw [if_pos (hbit.1 hge)] at hst
            go_wp2_with (first | (refine wpList_store_row rfl 30 _ _ rfl (g5) (rd (m ^ (e1 + e1) % prm)) rfl rfl 30 _ rl5 (rd_info _) rfl (rd_one _) ?_) | (refine wpList_load_want rfl 30 _ rfl (g5) rfl 30 (rd (m ^ (e1 + e1) % prm)) (0, 0) _ (setRow_heap w1 g5 _ (rd (m ^ (e1 + e1) % prm)) _ _ rl5) Tryd.underlying30 rfl (rd_info _) ?_) | (refine wpList_load_want rfl 30 _ rfl (w.heap.size) rfl 30 (rd m) (0, 0) _ ((setRow_other w1 g5 (w.heap.size) (rd (m ^ (e1 + e1) % prm)) (by omega)).trans rp0) Tryd.underlying30 rfl (rd_info _) ?_) | fail)
            replace rp0 := (setRow_other w1 g5 (w.heap.size) (rd (m ^ (e1 + e1) % prm)) (by omega)).trans rp0
            replace rp1 := (setRow_other w1 g5 (w.heap.size + 1) (rd (m ^ (e1 + e1) % prm)) (by omega)).trans rp1
            replace rl5 := setRow_heap w1 g5 _ (rd (m ^ (e1 + e1) % prm)) _ _ rl5
            replace hw := below_setRow hw (show w.heap.size ≤ g5 by omega) (rd (m ^ (e1 + e1) % prm))
            generalize w1.setRow g5 (rd (m ^ (e1 + e1) % prm)) = w2 at *
            refine (cm.at _).mono ?_
            rintro e w3 ⟨rfl, hb⟩
            replace rp0 := keep hb rp0
            replace rp1 := keep hb rp1
            replace rl5 := keep hb rl5
            replace hw := Below.after hw hb
            clear hb
            go_wp2_with (first | (refine wpList_store_row rfl 30 _ _ rfl (g5) (rd (m ^ (e1 + e1 + 1) % prm)) rfl rfl 30 _ rl5 (rd_info _) rfl (rd_one _) ?_) | fail)
            replace rp0 := (setRow_other w3 g5 (w.heap.size) (rd (m ^ (e1 + e1 + 1) % prm)) (by omega)).trans rp0
            replace rp1 := (setRow_other w3 g5 (w.heap.size + 1) (rd (m ^ (e1 + e1 + 1) % prm)) (by omega)).trans rp1
            replace rl5 := setRow_heap w3 g5 _ (rd (m ^ (e1 + e1 + 1) % prm)) _ _ rl5
            replace hw := below_setRow hw (show w.heap.size ≤ g5 by omega) (rd (m ^ (e1 + e1 + 1) % prm))
            generalize w3.setRow g5 (rd (m ^ (e1 + e1 + 1) % prm)) = w4 at *
            go_roundw
            case rel => exact ⟨j + 1, by omega, by go_num, by rw [hx1, ← hnext], rp0, rp1, by rw [he2, hst]; exact rl5, hw⟩
            case measure => simp [intOf]; omega
          · have hg : decide (128 ≤ x0) = false := decide_eq_false hge
            rw [if_neg (fun q => hge (hbit.2 q))] at hst
            go_wp2_with (first | (refine wpList_store_row rfl 30 _ _ rfl (g5) (rd (m ^ (e1 + e1) % prm)) rfl rfl 30 _ rl5 (rd_info _) rfl (rd_one _) ?_) | fail)
            replace rp0 := (setRow_other w1 g5 (w.heap.size) (rd (m ^ (e1 + e1) % prm)) (by omega)).trans rp0
            replace rp1 := (setRow_other w1 g5 (w.heap.size + 1) (rd (m ^ (e1 + e1) % prm)) (by omega)).trans rp1
            replace rl5 := setRow_heap w1 g5 _ (rd (m ^ (e1 + e1) % prm)) _ _ rl5
            replace hw := below_setRow hw (show w.heap.size ≤ g5 by omega) (rd (m ^ (e1 + e1) % prm))
            generalize w1.setRow g5 (rd (m ^ (e1 + e1) % prm)) = w2 at *
            go_roundw
            case rel => exact ⟨j + 1, by omega, by go_num, by rw [hx1, ← hnext], rp0, rp1, by rw [he2, hst]; exact rl5, hw⟩
            case measure => simp [intOf]; omega
        · obtain rfl : j = 8 := by omega
          have hdj : decide ((8 : Int) < 8) = false := by decide
          go_wp2
          go_roundw
          case rel => exact ⟨k + 1, by omega, by go_num, rp0, rp1, by rw [htop, show E * 256 + z.toNat = E * 2 ^ 8 + z.toNat / 2 ^ (8 - 8) by omega]; exact rl5, hw⟩
          case measure => simp [intOf]
    · obtain rfl : k = len := by omega
      have hi : (k : Int) - 1 - k = -1 := by omega
      rw [hi]
      go_wp2_with (first | (refine wpList_load_want rfl 30 _ rfl (g5) rfl 30 (rd (m ^ topv bs k % prm)) (0, 0) _ rl5 Tryd.underlying30 rfl (rd_info _) ?_) | (refine wpList_store_row rfl 30 _ _ rfl (w.heap.size + 1) (rd (m ^ topv bs k % prm)) rfl rfl 30 _ rp1 (rd_info _) rfl (rd_one _) ?_) | fail)
      rw [hall] at *
      exact bodyPost_ret (v := .agg (rd (m ^ bval bs % prm))) (results_cell_row Tryd.results31 _ _ (w.heap.size + 1) _ (rd (m ^ bval bs % prm)) _ _ rfl (setRow_heap _ _ _ _ _ _ rp1) Tryd.underlying30 rfl (rd_info _)) rfl ⟨rfl, below_setRow hw (by omega) _⟩

end Go.Proofs.YtnohfbpmckhbbaaDoor

