import Derived.Test.YtleeadbceljfbaaGreatDoorProg
import Derived.WalkKit
import Derived.WalkSpells
import Derived.WalkLawsBesides
import Derived.Lib.QuietBelow
import Derived.Laws.BitsAllLaws
import Derived.BigQuiet
import Derived.WalkMore
import Derived.Deep.MidRow
import Derived.Test.YtleeadbceljfbaaGreatDoorCKa
import Derived.Test.YtleeadbceljfbaaGreatDoorCQa4
namespace Go.Proofs.YtleeadbceljfbaaGreatDoor
set_option maxRecDepth 100000
open Go Go.RowKit Go.Sort
attribute [local go_sem] setCell_drewN alloc_drewN
theorem Lc.lt {w : World} {g : Nat} {L : Int} (h : Lc w g L) : g < w.heap.size := (Array.getElem?_eq_some_iff.1 h).1
theorem cells5 {W : World} {G : Nat} {a0 a1 a2 a3 a4 : Value} {T : TypeId} (R0 : W.heap[G]? = some (.cells #[a0, a1, a2, a3, a4] T (0, 0))) : W.cell? ⟨G, 0, none⟩ = some a0 ∧ W.cell? ⟨G, 1, none⟩ = some a1 ∧ W.cell? ⟨G, 2, none⟩ = some a2 ∧ W.cell? ⟨G, 3, none⟩ = some a3 ∧ W.cell? ⟨G, 4, none⟩ = some a4 :=
 ⟨cell_of_row _ _ _ _ _ _ R0, cell_of_row _ _ _ _ _ _ R0, cell_of_row _ _ _ _ _ _ R0, cell_of_row _ _ _ _ _ _ R0, cell_of_row _ _ _ _ _ _ R0⟩
set_option maxRecDepth 100000 in
set_option maxHeartbeats 4000000 in
theorem a_nested {W : World} {t : Slt} {u : Value} (hM : MsgC W u t.sub) (hk : nst t) (hok : Sok t) (hlm : t.least ≤ t.most) (w : World) (g : Nat) (deep L : Int) (hw : Below W.heap.size W w) (hg : W.heap.size ≤ g) (hL : Lc w g L) (hd1 : 0 ≤ deep) (hd2 : deep ≤ 6) (hL0 : 0 ≤ L) (hL1 : L ≤ 256) :
   Calls Tryz.prog 105 #[.pointer (some ⟨g, 0, none⟩), .agg #[.int .i64 t.no, .int .i64 t.kind, .int .u64 (t.least : Int), .int .u64 (t.most : Int), u], .int .i64 deep] w (OutS g w (psh t deep L) t) := by
 have R0 := hp1_0 w (.cells #[.int .i64 t.no, .int .i64 t.kind, .int .u64 (t.least : Int), .int .u64 (t.most : Int), u] 99)
 have hwa : Below w.heap.size w (w.alloc (.cells #[.int .i64 t.no, .int .i64 t.kind, .int .u64 (t.least : Int), .int .u64 (t.most : Int), u] 99)) := (Below.refl _ _).alloc (Nat.le_refl _) _
 have hL' : Lc (w.alloc (.cells #[.int .i64 t.no, .int .i64 t.kind, .int .u64 (t.least : Int), .int .u64 (t.most : Int), u] 99)) g L := keep hwa hL
 have lG := hL.lt
 have cM := hM _ g (deep + 1) L (Below.after hw hwa) hg hL' (by omega) (by omega) hL0 hL1
 obtain ⟨-, -, -, -, c4⟩ := cells5 R0
 obtain ⟨_, hkb, hlb, hmb⟩ := hok
 have hs8 : ∀ (x : Int), t.kind = 8 → t.most = 0 → sfit t = true := fun _ h1 h2 => by
   unfold sfit fitN; rw [h1, h2, show t.least = 0 by omega]; rfl
 have hs8' : t.kind = 8 → t.most ≠ 0 → sfit t = false := fun h1 h2 => by
   have : (((t.most : Nat) : Int) == 0) = false := by simp; omega
   unfold sfit fitN; rw [h1, this]; simp [fitB]
 have hs9 : t.kind = 9 → t.most ≤ 4096 → sfit t = true := fun h1 h2 => by
   have q1 : decide ((t.least : Int) ≤ (t.most : Int)) = true := by simp; omega
   have q2 : decide (((t.most : Nat) : Int) ≤ 4096) = true := by simp; omega
   unfold sfit fitN; rw [h1, q1, q2]; rfl
 have hs9' : t.kind = 9 → ¬ t.most ≤ 4096 → sfit t = false := fun h1 h2 => by
   have q2 : decide (((t.most : Nat) : Int) ≤ 4096) = false := by simp; omega
   unfold sfit fitN; rw [h1, q2]; simp [fitB]
 have hp : sfit t = true → psh t deep L = pm t.sub (deep + 1) L := fun h => by
   unfold psh; rw [if_neg (by rw [h]; decide), if_pos hk]
 have hp' : sfit t = false → psh t deep L = -1 := fun h => if_pos h
 go_enter Tryz.func105, Tryz.ntmps105
 go_wp2_with (first | (refine wpList_box rfl 99 _ rfl _ rfl (bSl _) ?_) | fail)
 have hsz : w.heap.size ≤ (w.alloc (.cells #[.int .i64 t.no, .int .i64 t.kind, .int .u64 (t.least : Int), .int .u64 (t.most : Int), u] 99)).heap.size := hwa.size
 generalize w.alloc (.cells #[.int .i64 t.no, .int .i64 t.kind, .int .u64 (t.least : Int), .int .u64 (t.most : Int), u] 99) = w0 at *
 refine cM.mono ?_
 rintro e_ w1 ⟨hbm, hres⟩
 have R1 : w1.heap[w.heap.size]? = _ := hbm.row R0 (by omega)
 obtain ⟨-, c1, c2, c3, -⟩ := cells5 R1
 have hB : But g w w1 := (But.of hwa).trans hbm
 clear cM hM R0 c4 hL'
 have k1 : ∀ p : Regrown, (grow (redrawn w1 p.d) p.os).cell? ⟨w.heap.size, 1, none⟩ = _ := fun p => cell_regrown c1 p.d p.os
 have k2 : ∀ p : Regrown, (grow (redrawn w1 p.d) p.os).cell? ⟨w.heap.size, 2, none⟩ = _ := fun p => cell_regrown c2 p.d p.os
 have k3 : ∀ p : Regrown, (grow (redrawn w1 p.d) p.os).cell? ⟨w.heap.size, 3, none⟩ = _ := fun p => cell_regrown c3 p.d p.os
 rcases hk with hk | hk
 · have hkd : (t.kind == 8) = true := by simp [hk]
   have hU : shp t = fun u => (.iface 161 u : Value) := by
     funext u; unfold shp; rw [hk]; rfl
   rcases hres with ⟨hr0, v, rfl, hv, hl⟩ | ⟨hr0, rfl⟩
   · obtain ⟨va, vc, rfl⟩ := hv.form
     by_cases hm : t.most = 0
     · have hf := hs8 0 hk hm
       have hmd : ((t.most : Int) == 0) = true := by simp; omega
       clear hs8 hs8' hs9 hs9' hlm
       go_wp2_with (fail)
       refine wp_region_quiet_below (by kernel_rfl) (by kernel_rfl) ?_
       go_big_quiet_step (fail)
       go_big_quiet_step (fail)
       go_big_quiet_step (fail)
       go_big_quiet_step (fail)
       go_big_quiet_step (fail)
       go_big_quiet_step (fail)
       go_big_quiet_step (fail)
       go_big_quiet_step (fail)
       go_big_quiet_step (fail)
       go_big_quiet_step (fail)
       refine wpQuiet_nil ?_
       rintro _ ⟨p, rfl⟩
       have hbq := below_regrown w1 p.d p.os
       generalize grow (redrawn w1 p.d) p.os = w2 at *
       clear k1 k2 k3
       replace hB := hB.trans (But.of hbq)
       go_wp2_with (fail)
       go_ret2
       refine ⟨hB, .inl ⟨by rw [hp hf]; exact hr0, _, ?_, fun h7 => by rw [hk] at h7; exact absurd h7 (by decide), fun _ => hv.keep hbq.size fun b hb1 hb2 => ⟨hbq.block b hb1, by omega⟩, by rw [hp hf]; exact keep hbq hl⟩⟩
       rw [hU]
       rfl
     · have hf := hs8' hk hm
       have hmd : ((t.most : Int) == 0) = false := by simp; omega
       clear hs8 hs8' hs9 hs9' hlm hv
       go_wp2_with (fail)
       refine wp_region_quiet_below (by kernel_rfl) (by kernel_rfl) ?_
       go_big_quiet_step (fail)
       go_big_quiet_step (fail)
       go_big_quiet_step (fail)
       go_big_quiet_step (fail)
       go_big_quiet_step (fail)
       go_big_quiet_step (fail)
       go_big_quiet_step (fail)
       go_big_quiet_step (fail)
       go_big_quiet_step (fail)
       go_big_quiet_step (fail)
       refine wpQuiet_nil ?_
       rintro _ ⟨p, rfl⟩
       have hbq := below_regrown w1 p.d p.os
       generalize grow (redrawn w1 p.d) p.os = w2 at *
       clear k1 k2 k3
       replace hB := hB.trans (But.of hbq)
       go_wp2_with (fail)
       go_ret2
       exact ⟨hB, .inr ⟨by rw [hp' hf]; decide, _, rfl⟩⟩
   · have hneg : psh t deep L < 0 := by
       cases hf : sfit t with
       | true => rw [hp hf]; exact hr0
       | false => rw [hp' hf]; decide
     clear hs8 hs8' hs9 hs9' hlm
     go_wp2_with (fail)
     refine wp_region_quiet_below (by kernel_rfl) (by kernel_rfl) ?_
     go_big_quiet_step (fail)
     go_big_quiet_step (fail)
     go_big_quiet_step (fail)
     go_big_quiet_step (fail)
     go_big_quiet_step (fail)
     go_big_quiet_step (fail)
     go_big_quiet_step (fail)
     go_big_quiet_step (fail)
     go_big_quiet_step (fail)
     go_big_quiet_step (fail)
     refine wpQuiet_nil ?_
     rintro _ ⟨p, rfl⟩
     have hbq := below_regrown w1 p.d p.os
     generalize grow (redrawn w1 p.d) p.os = w2 at *
     clear k1 k2 k3
     replace hB := hB.trans (But.of hbq)
     go_wp2_with (fail)
     go_ret2
     exact ⟨hB, .inr ⟨hneg, _, rfl⟩⟩
 · have hk8 : (t.kind == 8) = false := by rw [hk]; decide
   have hU : shp t = fun u => (.iface 202 (.agg #[.int .u64 (t.least : Int), .int .u64 (t.most : Int), u]) : Value) := by
     funext u; unfold shp; rw [hk]; rfl
   rcases hres with ⟨hr0, v, rfl, hv, hl⟩ | ⟨hr0, rfl⟩
   · obtain ⟨va, vc, rfl⟩ := hv.form
     by_cases hm : t.most ≤ 4096
     · have hf := hs9 hk hm
       have hmd : decide ((t.most : Int) ≤ 4096) = true := by simp; omega
       clear hs8 hs8' hs9 hs9' hlm
       go_wp2_with (fail)
       refine wp_region_quiet_below (by kernel_rfl) (by kernel_rfl) ?_
       go_big_quiet_step (fail)
       go_big_quiet_step (fail)
       go_big_quiet_step (fail)
       go_big_quiet_step (fail)
       go_big_quiet_step (fail)
       go_big_quiet_step (fail)
       go_big_quiet_step (fail)
       go_big_quiet_step (fail)
       go_big_quiet_step (fail)
       go_big_quiet_step (fail)
       go_big_quiet_step (fail)
       go_big_quiet_step (fail)
       go_big_quiet_step (fail)
       go_big_quiet_step (fail)
       go_big_quiet_step (fail)
       refine wpQuiet_nil ?_
       rintro _ ⟨p, rfl⟩
       have hbq := below_regrown w1 p.d p.os
       generalize grow (redrawn w1 p.d) p.os = w2 at *
       clear k1 k2 k3
       replace hB := hB.trans (But.of hbq)
       go_wp2_with (fail)
       go_ret2
       refine ⟨hB, .inl ⟨by rw [hp hf]; exact hr0, _, ?_, fun h7 => by rw [hk] at h7; exact absurd h7 (by decide), fun _ => hv.keep hbq.size fun b hb1 hb2 => ⟨hbq.block b hb1, by omega⟩, by rw [hp hf]; exact keep hbq hl⟩⟩
       rw [hU]
       rfl
     · have hf := hs9' hk hm
       have hmd : decide ((t.most : Int) ≤ 4096) = false := by simp; omega
       clear hs8 hs8' hs9 hs9' hlm hv
       go_wp2_with (fail)
       refine wp_region_quiet_below (by kernel_rfl) (by kernel_rfl) ?_
       go_big_quiet_step (fail)
       go_big_quiet_step (fail)
       go_big_quiet_step (fail)
       go_big_quiet_step (fail)
       go_big_quiet_step (fail)
       go_big_quiet_step (fail)
       go_big_quiet_step (fail)
       go_big_quiet_step (fail)
       go_big_quiet_step (fail)
       go_big_quiet_step (fail)
       go_big_quiet_step (fail)
       go_big_quiet_step (fail)
       go_big_quiet_step (fail)
       go_big_quiet_step (fail)
       go_big_quiet_step (fail)
       refine wpQuiet_nil ?_
       rintro _ ⟨p, rfl⟩
       have hbq := below_regrown w1 p.d p.os
       generalize grow (redrawn w1 p.d) p.os = w2 at *
       clear k1 k2 k3
       replace hB := hB.trans (But.of hbq)
       go_wp2_with (fail)
       go_ret2
       exact ⟨hB, .inr ⟨by rw [hp' hf]; decide, _, rfl⟩⟩
   · have hneg : psh t deep L < 0 := by
       cases hf : sfit t with
       | true => rw [hp hf]; exact hr0
       | false => rw [hp' hf]; decide
     clear hs8 hs8' hs9 hs9' hlm
     go_wp2_with (fail)
     refine wp_region_quiet_below (by kernel_rfl) (by kernel_rfl) ?_
     go_big_quiet_step (fail)
     go_big_quiet_step (fail)
     go_big_quiet_step (fail)
     go_big_quiet_step (fail)
     go_big_quiet_step (fail)
     go_big_quiet_step (fail)
     go_big_quiet_step (fail)
     go_big_quiet_step (fail)
     go_big_quiet_step (fail)
     go_big_quiet_step (fail)
     go_big_quiet_step (fail)
     go_big_quiet_step (fail)
     go_big_quiet_step (fail)
     go_big_quiet_step (fail)
     go_big_quiet_step (fail)
     refine wpQuiet_nil ?_
     rintro _ ⟨p, rfl⟩
     have hbq := below_regrown w1 p.d p.os
     generalize grow (redrawn w1 p.d) p.os = w2 at *
     clear k1 k2 k3
     replace hB := hB.trans (But.of hbq)
     go_wp2_with (fail)
     go_ret2
     exact ⟨hB, .inr ⟨hneg, _, rfl⟩⟩
end Go.Proofs.YtleeadbceljfbaaGreatDoor
