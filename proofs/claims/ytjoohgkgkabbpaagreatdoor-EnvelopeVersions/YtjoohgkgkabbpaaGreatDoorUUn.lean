import Derived.Test.YtjoohgkgkabbpaaGreatDoorProg
import Derived.WalkKit
import Derived.WalkSpells
import Derived.WalkLawsBesides
import Derived.Lib.QuietBelow
import Derived.Laws.BitsAllLaws
import Derived.BigQuiet
import Derived.WalkMore
import Derived.Deep.MidRow
import Derived.Test.YtjoohgkgkabbpaaGreatDoorUOpen
import Derived.Test.YtjoohgkgkabbpaaGreatDoorUQa4
namespace Go.Proofs.YtjoohgkgkabbpaaGreatDoor
set_option maxRecDepth 100000
open Go Go.RowKit Go.Sort
attribute [local go_sem] setCell_drewN alloc_drewN
set_option maxRecDepth 100000 in
set_option maxHeartbeats 16000000 in
theorem a_shape0 {W : World} {no k : Int} {l m : Nat} {sub : List Slt} {u : Value} (hS : Slo W u sub) (hM : MsgC W u sub) (hok : Sok (Slt.mk no k l m sub)) (w : World) (g : Nat) (deep L : Int) (hw : Below W.heap.size W w) (hg : W.heap.size ≤ g) (hL : Lc w g L) (hd1 : 0 ≤ deep) (hd2 : deep ≤ 6) (hL0 : 0 ≤ L) (hL1 : L ≤ 256) :
 Calls Tryz.prog 139 #[.pointer (some ⟨g, 0, none⟩), .agg #[.int .i64 no, .int .i64 k, .int .u64 (l : Int), .int .u64 (m : Int), u], .int .i64 deep] w (OutS g w (psh (Slt.mk no k l m sub) deep L) (Slt.mk no k l m sub)) := by
 have R0 := hp1_0 w (.cells #[.int .i64 no, .int .i64 k, .int .u64 (l : Int), .int .u64 (m : Int), u] 114)
 have hwa : Below w.heap.size w (w.alloc (.cells #[.int .i64 no, .int .i64 k, .int .u64 (l : Int), .int .u64 (m : Int), u] 114)) := (Below.refl _ _).alloc (Nat.le_refl _) _
 have hL' : Lc (w.alloc (.cells #[.int .i64 no, .int .i64 k, .int .u64 (l : Int), .int .u64 (m : Int), u] 114)) g L := keep hwa hL
 have lG := hL.lt
 have hB : But g w (w.alloc (.cells #[.int .i64 no, .int .i64 k, .int .u64 (l : Int), .int .u64 (m : Int), u] 114)) := But.of hwa
 obtain ⟨c0, c1, c2, c3, c4⟩ := cells5 R0
 obtain ⟨ao, cap, hu⟩ := hS.form
 subst hu
 have hkb := hok.2.1
 have hlb : l < 18446744073709551616 := hok.2.2.1
 have hmb : m < 18446744073709551616 := hok.2.2.2
 have hp' : fitN k (l : Int) (m : Int) sub.length = false → psh (Slt.mk no k l m sub) deep L < 0 := fun h => by unfold psh; rw [if_pos (show sfit (Slt.mk no k l m sub) = false from h)]; decide
 have hp : fitN k (l : Int) (m : Int) sub.length = true → ¬ nst (Slt.mk no k l m sub) → psh (Slt.mk no k l m sub) deep L = L := fun h h2 => by
  unfold psh; rw [if_neg (fun q => by rw [show sfit (Slt.mk no k l m sub) = true from h] at q; cases q), if_neg h2]
 by_cases hlm : l ≤ m
 ·have d1 : decide ((l : Int) > (m : Int)) = false := by simp; omega
  have d1' : decide ((m : Int) < (l : Int)) = false := by simp; omega
  by_cases hn : nst (Slt.mk no k l m sub)
  ·have cN := a_nested (t := (Slt.mk no k l m sub)) hM hn hok hlm (w.alloc (.cells #[.int .i64 no, .int .i64 k, .int .u64 (l : Int), .int .u64 (m : Int), .slice ao sub.length cap] 114)) g deep L (Below.after hw hwa) hg hL' hd1 hd2 hL0 hL1
   simp only [Slt.no, Slt.kind, Slt.least, Slt.most] at cN
   generalize psh (Slt.mk no k l m sub) deep L = rr at *
   rcases hn with hk | hk
   ·have hk' : k = 8 := hk
    have hkd : (k == 8) = true := by rw [hk']; decide
    clear hk hk'
    clear hp hp' hM hok hkb
    go_enter Tryz.func139, Tryz.ntmps139
    go_wp2_with (first | (refine wpList_box rfl 114 _ rfl _ rfl (bSl _) ?_) | (refine wpList_load_want rfl 114 _ rfl w.heap.size rfl 114 _ (0, 0) _ R0 Tryz.underlying114 rfl infoS ?_) | fail)
    generalize w.alloc (.cells #[.int .i64 no, .int .i64 k, .int .u64 (l : Int), .int .u64 (m : Int), .slice ao sub.length cap] 114) = w0 at *
    refine cN.mono ?_
    rintro e_ w1 ⟨hb1, hres⟩
    rcases hres with ⟨hr0, x, rfl, hq, hv, hl⟩ | ⟨hr0, x, rfl⟩
    ·go_wp2_with (fail)
     go_ret2
     exact ⟨hB.trans hb1, .inl ⟨hr0, x, rfl, hq, fun h => (hv h).keep (Nat.le_refl _) fun b _ hb => ⟨rfl, Nat.le_trans hB.size hb⟩, hl⟩⟩
    ·go_wp2_with (fail)
     go_ret2
     exact ⟨hB.trans hb1, .inr ⟨hr0, _, rfl⟩⟩
   ·have hk' : k = 9 := hk
    have hkd : (k == 8) = false := by rw [hk']; decide
    have hkd9 : (k == 9) = true := by rw [hk']; decide
    clear hk hk'
    clear hp hp' hM hok hkb
    go_enter Tryz.func139, Tryz.ntmps139
    go_wp2_with (first | (refine wpList_box rfl 114 _ rfl _ rfl (bSl _) ?_) | (refine wpList_load_want rfl 114 _ rfl w.heap.size rfl 114 _ (0, 0) _ R0 Tryz.underlying114 rfl infoS ?_) | fail)
    generalize w.alloc (.cells #[.int .i64 no, .int .i64 k, .int .u64 (l : Int), .int .u64 (m : Int), .slice ao sub.length cap] 114) = w0 at *
    refine cN.mono ?_
    rintro e_ w1 ⟨hb1, hres⟩
    rcases hres with ⟨hr0, x, rfl, hq, hv, hl⟩ | ⟨hr0, x, rfl⟩
    ·go_wp2_with (fail)
     go_ret2
     exact ⟨hB.trans hb1, .inl ⟨hr0, x, rfl, hq, fun h => (hv h).keep (Nat.le_refl _) fun b _ hb => ⟨rfl, Nat.le_trans hB.size hb⟩, hl⟩⟩
    ·go_wp2_with (fail)
     go_ret2
     exact ⟨hB.trans hb1, .inr ⟨hr0, _, rfl⟩⟩
  ·have n8 : ¬ k = 8 := fun h => hn (.inl h)
   have n9 : ¬ k = 9 := fun h => hn (.inr h)
   clear hM hS hok
   by_cases h0 : sub.length = 0
   ·have e0 : ((sub.length : Nat) : Int) = 0 := by omega
    rcases kind_cases k with rfl | rfl | rfl | rfl | rfl | rfl | rfl | rfl | rfl | ⟨m1, m2, m3, m4, m5, m6, m7, m8, m9⟩
    ·have dr : decide ((l : Int) ≤ (m : Int)) = true := by simp; omega
     have hf : fitN 1 (l : Int) (m : Int) sub.length = true := by unfold fitN; rw [dr, e0]; rfl
     have hpp := hp hf hn
     clear hp hp' hf dr hkb n8 n9
     generalize sub.length = n at *
     subst h0
     clear e0
     go_enter Tryz.func139, Tryz.ntmps139
     go_wp2_with (first | (refine wpList_box rfl 114 _ rfl _ rfl (bSl _) ?_) | fail)
     go_ret2
     exact ⟨hB, .inl ⟨by rw [hpp]; exact hL0, undef, rfl, fun h7 => absurd (show (1 : Int) = 7 from h7) (by decide), fun h => absurd h hn, by rw [hpp]; exact hL'⟩⟩
    ·have dr : decide ((l : Int) ≤ (m : Int)) = true := by simp; omega
     by_cases hm : m < 4294967296
     ·have dm : decide ((m : Int) < 4294967296) = true := by simp; omega
      have dm2 : decide ((m : Int) ≤ 4294967295) = true := by simp; omega
      have hf : fitN 2 (l : Int) (m : Int) sub.length = true := by unfold fitN; rw [dr, dm, e0]; rfl
      have hpp := hp hf hn
      clear hp hp' hf dr hkb n8 n9
      clear hm dm
      generalize sub.length = n at *
      subst h0
      clear e0
      have k1 : ∀ p : Regrown, (grow (redrawn (w.alloc (.cells #[.int .i64 no, .int .i64 2, .int .u64 (l : Int), .int .u64 (m : Int), .slice ao 0 cap] 114)) p.d) p.os).cell? ⟨w.heap.size, 1, none⟩ = _ := fun p => cell_regrown c1 p.d p.os
      have k2 : ∀ p : Regrown, (grow (redrawn (w.alloc (.cells #[.int .i64 no, .int .i64 2, .int .u64 (l : Int), .int .u64 (m : Int), .slice ao 0 cap] 114)) p.d) p.os).cell? ⟨w.heap.size, 2, none⟩ = _ := fun p => cell_regrown c2 p.d p.os
      have k3 : ∀ p : Regrown, (grow (redrawn (w.alloc (.cells #[.int .i64 no, .int .i64 2, .int .u64 (l : Int), .int .u64 (m : Int), .slice ao 0 cap] 114)) p.d) p.os).cell? ⟨w.heap.size, 3, none⟩ = _ := fun p => cell_regrown c3 p.d p.os
      go_enter Tryz.func139, Tryz.ntmps139
      go_wp2_with (first | (refine wpList_box rfl 114 _ rfl _ rfl (bSl _) ?_) | fail)
      generalize w.alloc (.cells #[.int .i64 no, .int .i64 2, .int .u64 (l : Int), .int .u64 (m : Int), .slice ao 0 cap] 114) = w0 at *
      refine wp_region_quiet_below (by kernel_rfl) (by kernel_rfl) ?_
      go_big_quiet_step (fail)
      go_big_quiet_step (fail)
      go_big_quiet_step (fail)
      go_big_quiet_step (fail)
      go_big_quiet_step (fail)
      go_big_quiet_step (fail)
      go_big_quiet_step (fail)
      go_big_quiet_step (fail)
      go_big_quiet_step (fail)
      go_big_quiet_step (fail)
      go_big_quiet_step (fail)
      refine wpQuiet_nil ?_
      rintro _ ⟨p, rfl⟩
      have hbq := below_regrown w0 p.d p.os
      generalize grow (redrawn w0 p.d) p.os = w2 at *
      clear k1 k2 k3
      replace hB := hB.trans (But.of hbq)
      replace hL' := keep hbq hL'
      go_wp2_with (fail)
      go_ret2
      exact ⟨hB, .inl ⟨by rw [hpp]; exact hL0, undef, rfl, fun h7 => absurd (show (2 : Int) = 7 from h7) (by decide), fun h => absurd h hn, by rw [hpp]; exact hL'⟩⟩
     ·have dm : decide ((m : Int) < 4294967296) = false := by simp; omega
      have dm2 : decide ((m : Int) ≤ 4294967295) = false := by simp; omega
      have hf : fitN 2 (l : Int) (m : Int) sub.length = false := by unfold fitN; rw [dm]; simp [fitB]
      have hpp := hp' hf
      clear hp hp' hf dr hkb n8 n9
      clear hm dm
      generalize sub.length = n at *
      subst h0
      clear e0
      have k1 : ∀ p : Regrown, (grow (redrawn (w.alloc (.cells #[.int .i64 no, .int .i64 2, .int .u64 (l : Int), .int .u64 (m : Int), .slice ao 0 cap] 114)) p.d) p.os).cell? ⟨w.heap.size, 1, none⟩ = _ := fun p => cell_regrown c1 p.d p.os
      have k2 : ∀ p : Regrown, (grow (redrawn (w.alloc (.cells #[.int .i64 no, .int .i64 2, .int .u64 (l : Int), .int .u64 (m : Int), .slice ao 0 cap] 114)) p.d) p.os).cell? ⟨w.heap.size, 2, none⟩ = _ := fun p => cell_regrown c2 p.d p.os
      have k3 : ∀ p : Regrown, (grow (redrawn (w.alloc (.cells #[.int .i64 no, .int .i64 2, .int .u64 (l : Int), .int .u64 (m : Int), .slice ao 0 cap] 114)) p.d) p.os).cell? ⟨w.heap.size, 3, none⟩ = _ := fun p => cell_regrown c3 p.d p.os
      go_enter Tryz.func139, Tryz.ntmps139
      go_wp2_with (first | (refine wpList_box rfl 114 _ rfl _ rfl (bSl _) ?_) | fail)
      generalize w.alloc (.cells #[.int .i64 no, .int .i64 2, .int .u64 (l : Int), .int .u64 (m : Int), .slice ao 0 cap] 114) = w0 at *
      refine wp_region_quiet_below (by kernel_rfl) (by kernel_rfl) ?_
      go_big_quiet_step (fail)
      go_big_quiet_step (fail)
      go_big_quiet_step (fail)
      go_big_quiet_step (fail)
      go_big_quiet_step (fail)
      go_big_quiet_step (fail)
      go_big_quiet_step (fail)
      go_big_quiet_step (fail)
      go_big_quiet_step (fail)
      go_big_quiet_step (fail)
      go_big_quiet_step (fail)
      refine wpQuiet_nil ?_
      rintro _ ⟨p, rfl⟩
      have hbq := below_regrown w0 p.d p.os
      generalize grow (redrawn w0 p.d) p.os = w2 at *
      clear k1 k2 k3
      replace hB := hB.trans (But.of hbq)
      replace hL' := keep hbq hL'
      go_wp2_with (fail)
      go_ret2
      exact ⟨hB, .inr ⟨hpp, _, rfl⟩⟩
    ·have dr : decide ((l : Int) ≤ (m : Int)) = true := by simp; omega
     have hf : fitN 3 (l : Int) (m : Int) sub.length = true := by unfold fitN; rw [dr, e0]; rfl
     have hpp := hp hf hn
     clear hp hp' hf dr hkb n8 n9
     generalize sub.length = n at *
     subst h0
     clear e0
     go_enter Tryz.func139, Tryz.ntmps139
     go_wp2_with (first | (refine wpList_box rfl 114 _ rfl _ rfl (bSl _) ?_) | fail)
     go_ret2
     exact ⟨hB, .inl ⟨by rw [hpp]; exact hL0, undef, rfl, fun h7 => absurd (show (3 : Int) = 7 from h7) (by decide), fun h => absurd h hn, by rw [hpp]; exact hL'⟩⟩
    ·have dr : decide ((l : Int) ≤ (m : Int)) = true := by simp; omega
     by_cases hm : m = 0
     ·have dm : ((m : Int) == 0) = true := by simp; omega
      have dz : ((l : Int) == 0) = true := by simp; omega
      have hf : fitN 4 (l : Int) (m : Int) sub.length = true := by unfold fitN; rw [dz, dm, e0]; rfl
      have hpp := hp hf hn
      clear hp hp' hf dr hkb n8 n9
      clear hm
      clear dz
      generalize sub.length = n at *
      subst h0
      clear e0
      have k1 : ∀ p : Regrown, (grow (redrawn (w.alloc (.cells #[.int .i64 no, .int .i64 4, .int .u64 (l : Int), .int .u64 (m : Int), .slice ao 0 cap] 114)) p.d) p.os).cell? ⟨w.heap.size, 1, none⟩ = _ := fun p => cell_regrown c1 p.d p.os
      have k2 : ∀ p : Regrown, (grow (redrawn (w.alloc (.cells #[.int .i64 no, .int .i64 4, .int .u64 (l : Int), .int .u64 (m : Int), .slice ao 0 cap] 114)) p.d) p.os).cell? ⟨w.heap.size, 2, none⟩ = _ := fun p => cell_regrown c2 p.d p.os
      have k3 : ∀ p : Regrown, (grow (redrawn (w.alloc (.cells #[.int .i64 no, .int .i64 4, .int .u64 (l : Int), .int .u64 (m : Int), .slice ao 0 cap] 114)) p.d) p.os).cell? ⟨w.heap.size, 3, none⟩ = _ := fun p => cell_regrown c3 p.d p.os
      go_enter Tryz.func139, Tryz.ntmps139
      go_wp2_with (first | (refine wpList_box rfl 114 _ rfl _ rfl (bSl _) ?_) | fail)
      generalize w.alloc (.cells #[.int .i64 no, .int .i64 4, .int .u64 (l : Int), .int .u64 (m : Int), .slice ao 0 cap] 114) = w0 at *
      refine wp_region_quiet_below (by kernel_rfl) (by kernel_rfl) ?_
      go_big_quiet_step (fail)
      go_big_quiet_step (fail)
      go_big_quiet_step (fail)
      go_big_quiet_step (fail)
      go_big_quiet_step (fail)
      go_big_quiet_step (fail)
      go_big_quiet_step (fail)
      refine wpQuiet_nil ?_
      rintro _ ⟨p, rfl⟩
      have hbq := below_regrown w0 p.d p.os
      generalize grow (redrawn w0 p.d) p.os = w2 at *
      clear k1 k2 k3
      replace hB := hB.trans (But.of hbq)
      replace hL' := keep hbq hL'
      go_wp2_with (fail)
      go_ret2
      exact ⟨hB, .inl ⟨by rw [hpp]; exact hL0, undef, rfl, fun h7 => absurd (show (4 : Int) = 7 from h7) (by decide), fun h => absurd h hn, by rw [hpp]; exact hL'⟩⟩
     ·have dm : ((m : Int) == 0) = false := by simp; omega
      have hf : fitN 4 (l : Int) (m : Int) sub.length = false := by unfold fitN; rw [dm]; simp [fitB]
      have hpp := hp' hf
      clear hp hp' hf dr hkb n8 n9
      clear hm
      generalize sub.length = n at *
      subst h0
      clear e0
      have k1 : ∀ p : Regrown, (grow (redrawn (w.alloc (.cells #[.int .i64 no, .int .i64 4, .int .u64 (l : Int), .int .u64 (m : Int), .slice ao 0 cap] 114)) p.d) p.os).cell? ⟨w.heap.size, 1, none⟩ = _ := fun p => cell_regrown c1 p.d p.os
      have k2 : ∀ p : Regrown, (grow (redrawn (w.alloc (.cells #[.int .i64 no, .int .i64 4, .int .u64 (l : Int), .int .u64 (m : Int), .slice ao 0 cap] 114)) p.d) p.os).cell? ⟨w.heap.size, 2, none⟩ = _ := fun p => cell_regrown c2 p.d p.os
      have k3 : ∀ p : Regrown, (grow (redrawn (w.alloc (.cells #[.int .i64 no, .int .i64 4, .int .u64 (l : Int), .int .u64 (m : Int), .slice ao 0 cap] 114)) p.d) p.os).cell? ⟨w.heap.size, 3, none⟩ = _ := fun p => cell_regrown c3 p.d p.os
      go_enter Tryz.func139, Tryz.ntmps139
      go_wp2_with (first | (refine wpList_box rfl 114 _ rfl _ rfl (bSl _) ?_) | fail)
      generalize w.alloc (.cells #[.int .i64 no, .int .i64 4, .int .u64 (l : Int), .int .u64 (m : Int), .slice ao 0 cap] 114) = w0 at *
      refine wp_region_quiet_below (by kernel_rfl) (by kernel_rfl) ?_
      go_big_quiet_step (fail)
      go_big_quiet_step (fail)
      go_big_quiet_step (fail)
      go_big_quiet_step (fail)
      go_big_quiet_step (fail)
      go_big_quiet_step (fail)
      go_big_quiet_step (fail)
      refine wpQuiet_nil ?_
      rintro _ ⟨p, rfl⟩
      have hbq := below_regrown w0 p.d p.os
      generalize grow (redrawn w0 p.d) p.os = w2 at *
      clear k1 k2 k3
      replace hB := hB.trans (But.of hbq)
      replace hL' := keep hbq hL'
      go_wp2_with (fail)
      go_ret2
      exact ⟨hB, .inr ⟨hpp, _, rfl⟩⟩
    ·have dr : decide ((l : Int) ≤ (m : Int)) = true := by simp; omega
     by_cases hm : m ≤ 4194304
     ·have dm : decide ((m : Int) ≤ 4194304) = true := by simp; omega
      have hf : fitN 5 (l : Int) (m : Int) sub.length = true := by unfold fitN; rw [dr, dm, e0]; rfl
      have hpp := hp hf hn
      clear hp hp' hf dr hkb n8 n9
      generalize sub.length = n at *
      subst h0
      clear e0
      have k1 : ∀ p : Regrown, (grow (redrawn (w.alloc (.cells #[.int .i64 no, .int .i64 5, .int .u64 (l : Int), .int .u64 (m : Int), .slice ao 0 cap] 114)) p.d) p.os).cell? ⟨w.heap.size, 1, none⟩ = _ := fun p => cell_regrown c1 p.d p.os
      have k2 : ∀ p : Regrown, (grow (redrawn (w.alloc (.cells #[.int .i64 no, .int .i64 5, .int .u64 (l : Int), .int .u64 (m : Int), .slice ao 0 cap] 114)) p.d) p.os).cell? ⟨w.heap.size, 2, none⟩ = _ := fun p => cell_regrown c2 p.d p.os
      have k3 : ∀ p : Regrown, (grow (redrawn (w.alloc (.cells #[.int .i64 no, .int .i64 5, .int .u64 (l : Int), .int .u64 (m : Int), .slice ao 0 cap] 114)) p.d) p.os).cell? ⟨w.heap.size, 3, none⟩ = _ := fun p => cell_regrown c3 p.d p.os
      go_enter Tryz.func139, Tryz.ntmps139
      go_wp2_with (first | (refine wpList_box rfl 114 _ rfl _ rfl (bSl _) ?_) | fail)
      generalize w.alloc (.cells #[.int .i64 no, .int .i64 5, .int .u64 (l : Int), .int .u64 (m : Int), .slice ao 0 cap] 114) = w0 at *
      refine wp_region_quiet_below (by kernel_rfl) (by kernel_rfl) ?_
      go_big_quiet_step (fail)
      go_big_quiet_step (fail)
      go_big_quiet_step (fail)
      go_big_quiet_step (fail)
      go_big_quiet_step (fail)
      go_big_quiet_step (fail)
      go_big_quiet_step (fail)
      go_big_quiet_step (fail)
      go_big_quiet_step (fail)
      go_big_quiet_step (fail)
      go_big_quiet_step (fail)
      go_big_quiet_step (fail)
      go_big_quiet_step (fail)
      go_big_quiet_step (fail)
      refine wpQuiet_nil ?_
      rintro _ ⟨p, rfl⟩
      have hbq := below_regrown w0 p.d p.os
      generalize grow (redrawn w0 p.d) p.os = w2 at *
      clear k1 k2 k3
      replace hB := hB.trans (But.of hbq)
      replace hL' := keep hbq hL'
      go_wp2_with (fail)
      go_ret2
      exact ⟨hB, .inl ⟨by rw [hpp]; exact hL0, undef, rfl, fun h7 => absurd (show (5 : Int) = 7 from h7) (by decide), fun h => absurd h hn, by rw [hpp]; exact hL'⟩⟩
     ·have dm : decide ((m : Int) ≤ 4194304) = false := by simp; omega
      have hf : fitN 5 (l : Int) (m : Int) sub.length = false := by unfold fitN; rw [dm]; simp [fitB]
      have hpp := hp' hf
      clear hp hp' hf dr hkb n8 n9
      generalize sub.length = n at *
      subst h0
      clear e0
      have k1 : ∀ p : Regrown, (grow (redrawn (w.alloc (.cells #[.int .i64 no, .int .i64 5, .int .u64 (l : Int), .int .u64 (m : Int), .slice ao 0 cap] 114)) p.d) p.os).cell? ⟨w.heap.size, 1, none⟩ = _ := fun p => cell_regrown c1 p.d p.os
      have k2 : ∀ p : Regrown, (grow (redrawn (w.alloc (.cells #[.int .i64 no, .int .i64 5, .int .u64 (l : Int), .int .u64 (m : Int), .slice ao 0 cap] 114)) p.d) p.os).cell? ⟨w.heap.size, 2, none⟩ = _ := fun p => cell_regrown c2 p.d p.os
      have k3 : ∀ p : Regrown, (grow (redrawn (w.alloc (.cells #[.int .i64 no, .int .i64 5, .int .u64 (l : Int), .int .u64 (m : Int), .slice ao 0 cap] 114)) p.d) p.os).cell? ⟨w.heap.size, 3, none⟩ = _ := fun p => cell_regrown c3 p.d p.os
      go_enter Tryz.func139, Tryz.ntmps139
      go_wp2_with (first | (refine wpList_box rfl 114 _ rfl _ rfl (bSl _) ?_) | fail)
      generalize w.alloc (.cells #[.int .i64 no, .int .i64 5, .int .u64 (l : Int), .int .u64 (m : Int), .slice ao 0 cap] 114) = w0 at *
      refine wp_region_quiet_below (by kernel_rfl) (by kernel_rfl) ?_
      go_big_quiet_step (fail)
      go_big_quiet_step (fail)
      go_big_quiet_step (fail)
      go_big_quiet_step (fail)
      go_big_quiet_step (fail)
      go_big_quiet_step (fail)
      go_big_quiet_step (fail)
      go_big_quiet_step (fail)
      go_big_quiet_step (fail)
      go_big_quiet_step (fail)
      go_big_quiet_step (fail)
      go_big_quiet_step (fail)
      go_big_quiet_step (fail)
      go_big_quiet_step (fail)
      refine wpQuiet_nil ?_
      rintro _ ⟨p, rfl⟩
      have hbq := below_regrown w0 p.d p.os
      generalize grow (redrawn w0 p.d) p.os = w2 at *
      clear k1 k2 k3
      replace hB := hB.trans (But.of hbq)
      replace hL' := keep hbq hL'
      go_wp2_with (fail)
      go_ret2
      exact ⟨hB, .inr ⟨hpp, _, rfl⟩⟩
    ·have dr : decide ((l : Int) ≤ (m : Int)) = true := by simp; omega
     by_cases hm : m ≤ 4194304
     ·have dm : decide ((m : Int) ≤ 4194304) = true := by simp; omega
      have hf : fitN 6 (l : Int) (m : Int) sub.length = true := by unfold fitN; rw [dr, dm, e0]; rfl
      have hpp := hp hf hn
      clear hp hp' hf dr hkb n8 n9
      generalize sub.length = n at *
      subst h0
      clear e0
      have k1 : ∀ p : Regrown, (grow (redrawn (w.alloc (.cells #[.int .i64 no, .int .i64 6, .int .u64 (l : Int), .int .u64 (m : Int), .slice ao 0 cap] 114)) p.d) p.os).cell? ⟨w.heap.size, 1, none⟩ = _ := fun p => cell_regrown c1 p.d p.os
      have k2 : ∀ p : Regrown, (grow (redrawn (w.alloc (.cells #[.int .i64 no, .int .i64 6, .int .u64 (l : Int), .int .u64 (m : Int), .slice ao 0 cap] 114)) p.d) p.os).cell? ⟨w.heap.size, 2, none⟩ = _ := fun p => cell_regrown c2 p.d p.os
      have k3 : ∀ p : Regrown, (grow (redrawn (w.alloc (.cells #[.int .i64 no, .int .i64 6, .int .u64 (l : Int), .int .u64 (m : Int), .slice ao 0 cap] 114)) p.d) p.os).cell? ⟨w.heap.size, 3, none⟩ = _ := fun p => cell_regrown c3 p.d p.os
      go_enter Tryz.func139, Tryz.ntmps139
      go_wp2_with (first | (refine wpList_box rfl 114 _ rfl _ rfl (bSl _) ?_) | fail)
      generalize w.alloc (.cells #[.int .i64 no, .int .i64 6, .int .u64 (l : Int), .int .u64 (m : Int), .slice ao 0 cap] 114) = w0 at *
      refine wp_region_quiet_below (by kernel_rfl) (by kernel_rfl) ?_
      go_big_quiet_step (fail)
      go_big_quiet_step (fail)
      go_big_quiet_step (fail)
      go_big_quiet_step (fail)
      go_big_quiet_step (fail)
      go_big_quiet_step (fail)
      go_big_quiet_step (fail)
      go_big_quiet_step (fail)
      go_big_quiet_step (fail)
      go_big_quiet_step (fail)
      go_big_quiet_step (fail)
      go_big_quiet_step (fail)
      go_big_quiet_step (fail)
      go_big_quiet_step (fail)
      refine wpQuiet_nil ?_
      rintro _ ⟨p, rfl⟩
      have hbq := below_regrown w0 p.d p.os
      generalize grow (redrawn w0 p.d) p.os = w2 at *
      clear k1 k2 k3
      replace hB := hB.trans (But.of hbq)
      replace hL' := keep hbq hL'
      go_wp2_with (fail)
      go_ret2
      exact ⟨hB, .inl ⟨by rw [hpp]; exact hL0, undef, rfl, fun h7 => absurd (show (6 : Int) = 7 from h7) (by decide), fun h => absurd h hn, by rw [hpp]; exact hL'⟩⟩
     ·have dm : decide ((m : Int) ≤ 4194304) = false := by simp; omega
      have hf : fitN 6 (l : Int) (m : Int) sub.length = false := by unfold fitN; rw [dm]; simp [fitB]
      have hpp := hp' hf
      clear hp hp' hf dr hkb n8 n9
      generalize sub.length = n at *
      subst h0
      clear e0
      have k1 : ∀ p : Regrown, (grow (redrawn (w.alloc (.cells #[.int .i64 no, .int .i64 6, .int .u64 (l : Int), .int .u64 (m : Int), .slice ao 0 cap] 114)) p.d) p.os).cell? ⟨w.heap.size, 1, none⟩ = _ := fun p => cell_regrown c1 p.d p.os
      have k2 : ∀ p : Regrown, (grow (redrawn (w.alloc (.cells #[.int .i64 no, .int .i64 6, .int .u64 (l : Int), .int .u64 (m : Int), .slice ao 0 cap] 114)) p.d) p.os).cell? ⟨w.heap.size, 2, none⟩ = _ := fun p => cell_regrown c2 p.d p.os
      have k3 : ∀ p : Regrown, (grow (redrawn (w.alloc (.cells #[.int .i64 no, .int .i64 6, .int .u64 (l : Int), .int .u64 (m : Int), .slice ao 0 cap] 114)) p.d) p.os).cell? ⟨w.heap.size, 3, none⟩ = _ := fun p => cell_regrown c3 p.d p.os
      go_enter Tryz.func139, Tryz.ntmps139
      go_wp2_with (first | (refine wpList_box rfl 114 _ rfl _ rfl (bSl _) ?_) | fail)
      generalize w.alloc (.cells #[.int .i64 no, .int .i64 6, .int .u64 (l : Int), .int .u64 (m : Int), .slice ao 0 cap] 114) = w0 at *
      refine wp_region_quiet_below (by kernel_rfl) (by kernel_rfl) ?_
      go_big_quiet_step (fail)
      go_big_quiet_step (fail)
      go_big_quiet_step (fail)
      go_big_quiet_step (fail)
      go_big_quiet_step (fail)
      go_big_quiet_step (fail)
      go_big_quiet_step (fail)
      go_big_quiet_step (fail)
      go_big_quiet_step (fail)
      go_big_quiet_step (fail)
      go_big_quiet_step (fail)
      go_big_quiet_step (fail)
      go_big_quiet_step (fail)
      go_big_quiet_step (fail)
      refine wpQuiet_nil ?_
      rintro _ ⟨p, rfl⟩
      have hbq := below_regrown w0 p.d p.os
      generalize grow (redrawn w0 p.d) p.os = w2 at *
      clear k1 k2 k3
      replace hB := hB.trans (But.of hbq)
      replace hL' := keep hbq hL'
      go_wp2_with (fail)
      go_ret2
      exact ⟨hB, .inr ⟨hpp, _, rfl⟩⟩
    ·have dr : decide ((l : Int) ≤ (m : Int)) = true := by simp; omega
     by_cases hz : l = 0
     ·have dz : ((l : Int) == 0) = true := by simp; omega
      by_cases hm : m ≤ 9007199254740992
      ·have dm : decide ((m : Int) ≤ 9007199254740992) = true := by simp; omega
       have hf : fitN 7 (l : Int) (m : Int) sub.length = true := by unfold fitN; rw [dz, dm, e0]; rfl
       have hpp := hp hf hn
       clear hp hp' hf dr hkb n8 n9
       clear hz
       have r7 := fun w : World => run_convert_int_float (P := Tryz.prog) (w := w) 64 236 .u64 .f64 (m : Int) (by kernel_rfl) (by kernel_rfl)
       generalize sub.length = n at *
       subst h0
       clear e0
       have k1 : ∀ p : Regrown, (grow (redrawn (w.alloc (.cells #[.int .i64 no, .int .i64 7, .int .u64 (l : Int), .int .u64 (m : Int), .slice ao 0 cap] 114)) p.d) p.os).cell? ⟨w.heap.size, 1, none⟩ = _ := fun p => cell_regrown c1 p.d p.os
       have k2 : ∀ p : Regrown, (grow (redrawn (w.alloc (.cells #[.int .i64 no, .int .i64 7, .int .u64 (l : Int), .int .u64 (m : Int), .slice ao 0 cap] 114)) p.d) p.os).cell? ⟨w.heap.size, 2, none⟩ = _ := fun p => cell_regrown c2 p.d p.os
       have k3 : ∀ p : Regrown, (grow (redrawn (w.alloc (.cells #[.int .i64 no, .int .i64 7, .int .u64 (l : Int), .int .u64 (m : Int), .slice ao 0 cap] 114)) p.d) p.os).cell? ⟨w.heap.size, 3, none⟩ = _ := fun p => cell_regrown c3 p.d p.os
       go_enter Tryz.func139, Tryz.ntmps139
       go_wp2_with (first | (refine wpList_box rfl 114 _ rfl _ rfl (bSl _) ?_) | fail)
       generalize w.alloc (.cells #[.int .i64 no, .int .i64 7, .int .u64 (l : Int), .int .u64 (m : Int), .slice ao 0 cap] 114) = w0 at *
       refine wp_region_quiet_below (by kernel_rfl) (by kernel_rfl) ?_
       go_big_quiet_step (fail)
       go_big_quiet_step (fail)
       go_big_quiet_step (fail)
       go_big_quiet_step (fail)
       go_big_quiet_step (fail)
       go_big_quiet_step (fail)
       go_big_quiet_step (fail)
       go_big_quiet_step (fail)
       go_big_quiet_step (fail)
       go_big_quiet_step (fail)
       go_big_quiet_step (fail)
       go_big_quiet_step (fail)
       go_big_quiet_step (fail)
       go_big_quiet_step (fail)
       go_big_quiet_step (fail)
       refine wpQuiet_nil ?_
       rintro _ ⟨p, rfl⟩
       have hbq := below_regrown w0 p.d p.os
       generalize grow (redrawn w0 p.d) p.os = w2 at *
       clear k1 k2 k3
       replace hB := hB.trans (But.of hbq)
       replace hL' := keep hbq hL'
       go_wp2_with (fail)
       go_ret2
       exact ⟨hB, .inl ⟨by rw [hpp]; exact hL0, (.float .f64 (floatOfInt .f64 (m : Int))), rfl, fun _ => rfl, fun h => absurd h hn, by rw [hpp]; exact hL'⟩⟩
      ·have dm : decide ((m : Int) ≤ 9007199254740992) = false := by simp; omega
       have hf : fitN 7 (l : Int) (m : Int) sub.length = false := by unfold fitN; rw [dm]; simp [fitB]
       have hpp := hp' hf
       clear hp hp' hf dr hkb n8 n9
       clear hz
       have r7 := fun w : World => run_convert_int_float (P := Tryz.prog) (w := w) 64 236 .u64 .f64 (m : Int) (by kernel_rfl) (by kernel_rfl)
       generalize sub.length = n at *
       subst h0
       clear e0
       have k1 : ∀ p : Regrown, (grow (redrawn (w.alloc (.cells #[.int .i64 no, .int .i64 7, .int .u64 (l : Int), .int .u64 (m : Int), .slice ao 0 cap] 114)) p.d) p.os).cell? ⟨w.heap.size, 1, none⟩ = _ := fun p => cell_regrown c1 p.d p.os
       have k2 : ∀ p : Regrown, (grow (redrawn (w.alloc (.cells #[.int .i64 no, .int .i64 7, .int .u64 (l : Int), .int .u64 (m : Int), .slice ao 0 cap] 114)) p.d) p.os).cell? ⟨w.heap.size, 2, none⟩ = _ := fun p => cell_regrown c2 p.d p.os
       have k3 : ∀ p : Regrown, (grow (redrawn (w.alloc (.cells #[.int .i64 no, .int .i64 7, .int .u64 (l : Int), .int .u64 (m : Int), .slice ao 0 cap] 114)) p.d) p.os).cell? ⟨w.heap.size, 3, none⟩ = _ := fun p => cell_regrown c3 p.d p.os
       go_enter Tryz.func139, Tryz.ntmps139
       go_wp2_with (first | (refine wpList_box rfl 114 _ rfl _ rfl (bSl _) ?_) | fail)
       generalize w.alloc (.cells #[.int .i64 no, .int .i64 7, .int .u64 (l : Int), .int .u64 (m : Int), .slice ao 0 cap] 114) = w0 at *
       refine wp_region_quiet_below (by kernel_rfl) (by kernel_rfl) ?_
       go_big_quiet_step (fail)
       go_big_quiet_step (fail)
       go_big_quiet_step (fail)
       go_big_quiet_step (fail)
       go_big_quiet_step (fail)
       go_big_quiet_step (fail)
       go_big_quiet_step (fail)
       go_big_quiet_step (fail)
       go_big_quiet_step (fail)
       go_big_quiet_step (fail)
       go_big_quiet_step (fail)
       go_big_quiet_step (fail)
       go_big_quiet_step (fail)
       go_big_quiet_step (fail)
       go_big_quiet_step (fail)
       refine wpQuiet_nil ?_
       rintro _ ⟨p, rfl⟩
       have hbq := below_regrown w0 p.d p.os
       generalize grow (redrawn w0 p.d) p.os = w2 at *
       clear k1 k2 k3
       replace hB := hB.trans (But.of hbq)
       replace hL' := keep hbq hL'
       go_wp2_with (fail)
       go_ret2
       exact ⟨hB, .inr ⟨hpp, _, rfl⟩⟩
     ·have dm : ((l : Int) == 0) = false := by simp; omega
      have hf : fitN 7 (l : Int) (m : Int) sub.length = false := by unfold fitN; rw [dm]; simp [fitB]
      have hpp := hp' hf
      clear hp hp' hf dr hkb n8 n9
      clear hz
      have r7 := fun w : World => run_convert_int_float (P := Tryz.prog) (w := w) 64 236 .u64 .f64 (m : Int) (by kernel_rfl) (by kernel_rfl)
      generalize sub.length = n at *
      subst h0
      clear e0
      have k1 : ∀ p : Regrown, (grow (redrawn (w.alloc (.cells #[.int .i64 no, .int .i64 7, .int .u64 (l : Int), .int .u64 (m : Int), .slice ao 0 cap] 114)) p.d) p.os).cell? ⟨w.heap.size, 1, none⟩ = _ := fun p => cell_regrown c1 p.d p.os
      have k2 : ∀ p : Regrown, (grow (redrawn (w.alloc (.cells #[.int .i64 no, .int .i64 7, .int .u64 (l : Int), .int .u64 (m : Int), .slice ao 0 cap] 114)) p.d) p.os).cell? ⟨w.heap.size, 2, none⟩ = _ := fun p => cell_regrown c2 p.d p.os
      have k3 : ∀ p : Regrown, (grow (redrawn (w.alloc (.cells #[.int .i64 no, .int .i64 7, .int .u64 (l : Int), .int .u64 (m : Int), .slice ao 0 cap] 114)) p.d) p.os).cell? ⟨w.heap.size, 3, none⟩ = _ := fun p => cell_regrown c3 p.d p.os
      go_enter Tryz.func139, Tryz.ntmps139
      go_wp2_with (first | (refine wpList_box rfl 114 _ rfl _ rfl (bSl _) ?_) | fail)
      generalize w.alloc (.cells #[.int .i64 no, .int .i64 7, .int .u64 (l : Int), .int .u64 (m : Int), .slice ao 0 cap] 114) = w0 at *
      refine wp_region_quiet_below (by kernel_rfl) (by kernel_rfl) ?_
      go_big_quiet_step (fail)
      go_big_quiet_step (fail)
      go_big_quiet_step (fail)
      go_big_quiet_step (fail)
      go_big_quiet_step (fail)
      go_big_quiet_step (fail)
      go_big_quiet_step (fail)
      go_big_quiet_step (fail)
      go_big_quiet_step (fail)
      go_big_quiet_step (fail)
      go_big_quiet_step (fail)
      go_big_quiet_step (fail)
      go_big_quiet_step (fail)
      go_big_quiet_step (fail)
      go_big_quiet_step (fail)
      refine wpQuiet_nil ?_
      rintro _ ⟨p, rfl⟩
      have hbq := below_regrown w0 p.d p.os
      generalize grow (redrawn w0 p.d) p.os = w2 at *
      clear k1 k2 k3
      replace hB := hB.trans (But.of hbq)
      replace hL' := keep hbq hL'
      go_wp2_with (fail)
      go_ret2
      exact ⟨hB, .inr ⟨hpp, _, rfl⟩⟩
    ·exact absurd rfl n8
    ·exact absurd rfl n9
    ·have hf : fitN k (l : Int) (m : Int) sub.length = false := by simp [fitN, fitB, m1, m2, m3, m4, m5, m6, m7, m8, m9]
     have hpp := hp' hf
     clear hp hp' hf hkb
     have b1 : (k == 1) = false := by simpa using m1
     have b2 : (k == 2) = false := by simpa using m2
     have b3 : (k == 3) = false := by simpa using m3
     have b4 : (k == 4) = false := by simpa using m4
     have b5 : (k == 5) = false := by simpa using m5
     have b6 : (k == 6) = false := by simpa using m6
     have b7 : (k == 7) = false := by simpa using m7
     have b8 : (k == 8) = false := by simpa using m8
     have b9 : (k == 9) = false := by simpa using m9
     generalize sub.length = n at *
     subst h0
     clear e0 m1 m2 m3 m4 m5 m6 m7 m8 m9 n8 n9
     go_enter Tryz.func139, Tryz.ntmps139
     go_wp2_with (first | (refine wpList_box rfl 114 _ rfl _ rfl (bSl _) ?_) | fail)
     go_ret2
     exact ⟨hB, .inr ⟨hpp, _, rfl⟩⟩
   ·have hf : fitN k (l : Int) (m : Int) sub.length = false := by
     have q : ((sub.length : Int) == 0) = false := beq_eq_false_iff_ne.2 (by omega)
     rcases kind_cases k with hk | hk | hk | hk | hk | hk | hk | hk | hk | ⟨m1, m2, m3, m4, m5, m6, m7, m8, m9⟩
     all_goals first | exact absurd hk n8 | exact absurd hk n9 | (rw [hk]; unfold fitN; rw [q]; simp [fitB]; done) | (simp [fitN, fitB, m1, m2, m3, m4, m5, m6, m7, m8, m9]; done)
    have hpp := hp' hf
    clear hp hp' hf hkb
    generalize sub.length = n at *
    have dn : decide ((n : Int) > 0) = true := by simp; omega
    have dn' : decide (0 < (n : Int)) = true := by simp; omega
    have hnp : 0 < n := by omega
    have b8 : (k == 8) = false := by simpa using n8
    have b9 : (k == 9) = false := by simpa using n9
    clear n8 n9
    go_enter Tryz.func139, Tryz.ntmps139
    go_wp2_with (first | (refine wpList_box rfl 114 _ rfl _ rfl (bSl _) ?_) | fail)
    go_ret2
    exact ⟨hB, .inr ⟨hpp, _, rfl⟩⟩
 ·have hf : fitN k (l : Int) (m : Int) sub.length = false := by
   have q : decide ((l : Int) ≤ (m : Int)) = false := by simp; omega
   have q2 : ((l : Int) == 0) = false := by simp; omega
   rcases kind_cases k with hk | hk | hk | hk | hk | hk | hk | hk | hk | ⟨m1, m2, m3, m4, m5, m6, m7, m8, m9⟩
   all_goals first | (rw [hk]; unfold fitN; rw [q]; simp [fitB]; done) | (rw [hk]; unfold fitN; rw [q2]; simp [fitB]; done) | (simp [fitN, fitB, m1, m2, m3, m4, m5, m6, m7, m8, m9]; done)
  have hpp := hp' hf
  have d1 : decide ((l : Int) > (m : Int)) = true := by simp; omega
  have d1' : decide ((m : Int) < (l : Int)) = true := by simp; omega
  clear hp hp' hf hM hS hok hkb
  go_enter Tryz.func139, Tryz.ntmps139
  go_wp2_with (first | (refine wpList_box rfl 114 _ rfl _ rfl (bSl _) ?_) | fail)
  go_ret2
  exact ⟨hB, .inr ⟨hpp, _, rfl⟩⟩
theorem a_shape {W : World} {t : Slt} {u : Value} (hS : Slo W u t.sub) (hM : MsgC W u t.sub) (hok : Sok t) (w : World) (g : Nat) (deep L : Int) (hw : Below W.heap.size W w) (hg : W.heap.size ≤ g) (hL : Lc w g L) (hd1 : 0 ≤ deep) (hd2 : deep ≤ 6) (hL0 : 0 ≤ L) (hL1 : L ≤ 256) :
 Calls Tryz.prog 139 #[.pointer (some ⟨g, 0, none⟩), .agg (srow t u).toArray, .int .i64 deep] w (OutS g w (psh t deep L) t) := by
 obtain ⟨no, k, l, m, sub⟩ := t
 exact a_shape0 hS hM hok w g deep L hw hg hL hd1 hd2 hL0 hL1
end Go.Proofs.YtjoohgkgkabbpaaGreatDoor

