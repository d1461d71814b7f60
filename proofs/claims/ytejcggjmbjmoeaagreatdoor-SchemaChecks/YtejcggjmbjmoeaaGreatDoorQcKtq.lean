import Derived.Test.YtejcggjmbjmoeaaGreatDoorQcKtc
import Derived.Lib.ValidAsc
import Derived.Lib.Endian
import Derived.Lib.EndianBits
import Derived.Laws.BitsAllLaws
import Derived.Test.YtejcggjmbjmoeaaGreatDoorProg
import Derived.WalkKit
import Derived.WalkSpells
import Derived.WalkLawsBesides
import Derived.Lib.QuietBelow
import Derived.BigQuiet
import Derived.WalkMore
import Derived.Deep.MidRow
import Derived.Test.YtejcggjmbjmoeaaGreatDoorQcOpen
import Derived.Test.YtejcggjmbjmoeaaGreatDoorQcUo
namespace Go.Proofs.YtejcggjmbjmoeaaGreatDoor
set_option maxRecDepth 100000
open Go Go.RowKit Go.Sort
attribute [local go_sem] setCell_drewN alloc_drewN
def u8l (d : List B) : List UInt8 := d.map UInt8.ofBitVec
def utD (d : List B) : Bool := Lib.validD (u8l d)
theorem bys_cell {W : World} {a : Option Addr} {n c : Nat} {d : List B} (h : BysB W (.slice a n c) d) (h0 : 0 < d.length) : ∃ b off, a = some ⟨b, off, none⟩ ∧ n = d.length ∧ b < W.heap.size ∧ ∀ j, j < d.length → W.cell? ⟨b, off + j, none⟩ = some (.int .u8 (bv (gb d j))) := by
 obtain ⟨⟨ao, cap, e, hl, hc, hz⟩, _⟩ := h
 injection e with e1 e2 e3
 subst e1 e2 e3
 have hbl : (bl d).length = d.length := bl_len d
 obtain ⟨b, off, ea, hb, _⟩ := hc 0 (by omega)
 refine ⟨b, off, ea, hbl, hb, fun j hj => ?_⟩
 obtain ⟨b2, off2, ea2, hb2, h2⟩ := hc j (by omega)
 rw [ea] at ea2
 injection ea2 with ea2
 injection ea2 with q1 q2 _
 subst q1 q2
 rw [h2, bl_get]
 rfl
set_option maxRecDepth 100000 in
set_option maxHeartbeats 8000000 in
theorem a_word8 (x0 x1 x2 x3 x4 x5 x6 x7 : Nat) (hx : x0 < 256 ∧ x1 < 256 ∧ x2 < 256 ∧ x3 < 256 ∧ x4 < 256 ∧ x5 < 256 ∧ x6 < 256 ∧ x7 < 256) (b off n c : Nat) (w : World) (hn : 8 ≤ n) (hS : (fun W_ : World => W_.cell? ⟨b, off, none⟩ = some (.int .u8 (x0 : Int)) ∧ W_.cell? ⟨b, off + 1, none⟩ = some (.int .u8 (x1 : Int)) ∧ W_.cell? ⟨b, off + 2, none⟩ = some (.int .u8 (x2 : Int)) ∧ W_.cell? ⟨b, off + 3, none⟩ = some (.int .u8 (x3 : Int)) ∧ W_.cell? ⟨b, off + 4, none⟩ = some (.int .u8 (x4 : Int)) ∧ W_.cell? ⟨b, off + 5, none⟩ = some (.int .u8 (x5 : Int)) ∧ W_.cell? ⟨b, off + 6, none⟩ = some (.int .u8 (x6 : Int)) ∧ W_.cell? ⟨b, off + 7, none⟩ = some (.int .u8 (x7 : Int))) w) :
 Calls Tryz.prog 139 #[.slice (some ⟨b, off, none⟩) n c] w fun e w' => e = .returned (.int .u64 ((x0 + x1 * 256 + x2 * 65536 + x3 * 16777216 + x4 * 4294967296 + x5 * 1099511627776 + x6 * 281474976710656 + x7 * 72057594037927936 : Nat) : Int)) ∧ ∃ q, w' = w.drewN q := by
 obtain ⟨h0, h1, h2, h3, h4, h5, h6, h7⟩ := hx
 have q0 : (0 : Int) < (n : Int) := by omega
 have q1 : (1 : Int) < (n : Int) := by omega
 have q2 : (2 : Int) < (n : Int) := by omega
 have q3 : (3 : Int) < (n : Int) := by omega
 have q4 : (4 : Int) < (n : Int) := by omega
 have q5 : (5 : Int) < (n : Int) := by omega
 have q6 : (6 : Int) < (n : Int) := by omega
 have q7 : (7 : Int) < (n : Int) := by omega
 have p0 : 0 < n := by omega
 have p1 : 1 < n := by omega
 have p2 : 2 < n := by omega
 have p3 : 3 < n := by omega
 have p4 : 4 < n := by omega
 have p5 : 5 < n := by omega
 have p6 : 6 < n := by omega
 have p7 : 7 < n := by omega
 go_enter Tryz.func139, Tryz.ntmps139
 go_upto_region 2 with (fail)
 have hbd : ∃ q, w.drew = w.drewN q := ⟨1, rfl⟩
 have hS0 : (fun W_ : World => W_.cell? ⟨b, off, none⟩ = some (.int .u8 (x0 : Int)) ∧ W_.cell? ⟨b, off + 1, none⟩ = some (.int .u8 (x1 : Int)) ∧ W_.cell? ⟨b, off + 2, none⟩ = some (.int .u8 (x2 : Int)) ∧ W_.cell? ⟨b, off + 3, none⟩ = some (.int .u8 (x3 : Int)) ∧ W_.cell? ⟨b, off + 4, none⟩ = some (.int .u8 (x4 : Int)) ∧ W_.cell? ⟨b, off + 5, none⟩ = some (.int .u8 (x5 : Int)) ∧ W_.cell? ⟨b, off + 6, none⟩ = some (.int .u8 (x6 : Int)) ∧ W_.cell? ⟨b, off + 7, none⟩ = some (.int .u8 (x7 : Int))) w.drew := hS
 refine wp_region_noPanic ?_
 refine wp_region_held (S := fun W_ : World => W_.cell? ⟨b, off, none⟩ = some (.int .u8 (x0 : Int)) ∧ W_.cell? ⟨b, off + 1, none⟩ = some (.int .u8 (x1 : Int)) ∧ W_.cell? ⟨b, off + 2, none⟩ = some (.int .u8 (x2 : Int)) ∧ W_.cell? ⟨b, off + 3, none⟩ = some (.int .u8 (x3 : Int)) ∧ W_.cell? ⟨b, off + 4, none⟩ = some (.int .u8 (x4 : Int)) ∧ W_.cell? ⟨b, off + 5, none⟩ = some (.int .u8 (x5 : Int)) ∧ W_.cell? ⟨b, off + 6, none⟩ = some (.int .u8 (x6 : Int)) ∧ W_.cell? ⟨b, off + 7, none⟩ = some (.int .u8 (x7 : Int))) (by kernel_rfl) ?_
 change wpAnyH _ _ _ _ _ _ _ _ (World.drew _)
 generalize w.drew = w1 at *
 refine wpAnyH_take (i := 0) (v := ?v0) rfl (by kernel_rfl) (by kernel_rfl) (by kernel_rfl) (fun _ _ _ h => h) (Or.inl ⟨by rfl, ?y0⟩) hS0 ?r0
 case y0 =>
  intro w_ hS_
  skip
  go_simp
  try with_reducible rfl
 simp only [Act.put, List.getElem_toArray, List.getElem_cons_zero, List.setIfInBounds_toArray, List.set_cons_succ, List.set_cons_zero]
 refine wpAnyH_take (i := 1) (v := ?v1) rfl (by kernel_rfl) (by kernel_rfl) (by kernel_rfl) (fun _ _ _ h => h) (Or.inl ⟨by rfl, ?y1⟩) hS0 ?r1
 case y1 =>
  intro w_ hS_
  skip
  go_simp
  try with_reducible rfl
 simp only [Act.put, List.getElem_toArray, List.getElem_cons_succ, List.getElem_cons_zero, List.setIfInBounds_toArray, List.set_cons_succ, List.set_cons_zero]
 refine wpAnyH_take (i := 2) (v := .int .u8 (x0 : Int)) rfl (by kernel_rfl) (by kernel_rfl) (by kernel_rfl) (fun _ _ _ h => h) (Or.inl ⟨by rfl, ?y2⟩) hS0 ?r2
 case y2 =>
  intro w_ hS_
  have c_ := hS_.1
  go_simp
  try with_reducible rfl
 simp only [Act.put, List.getElem_toArray, List.getElem_cons_succ, List.getElem_cons_zero, List.setIfInBounds_toArray, List.set_cons_succ, List.set_cons_zero]
 refine wpAnyH_take (i := 3) (v := ?v3) rfl (by kernel_rfl) (by kernel_rfl) (by kernel_rfl) (fun _ _ _ h => h) (Or.inl ⟨by rfl, ?y3⟩) hS0 ?r3
 case y3 =>
  intro w_ hS_
  skip
  go_simp
  try with_reducible rfl
 simp only [Act.put, List.getElem_toArray, List.getElem_cons_succ, List.getElem_cons_zero, List.setIfInBounds_toArray, List.set_cons_succ, List.set_cons_zero]
 refine wpAnyH_take (i := 4) (v := ?v4) rfl (by kernel_rfl) (by kernel_rfl) (by kernel_rfl) (fun _ _ _ h => h) (Or.inl ⟨by rfl, ?y4⟩) hS0 ?r4
 case y4 =>
  intro w_ hS_
  skip
  go_simp
  try with_reducible rfl
 simp only [Act.put, List.getElem_toArray, List.getElem_cons_succ, List.getElem_cons_zero, List.setIfInBounds_toArray, List.set_cons_succ, List.set_cons_zero]
 refine wpAnyH_take (i := 5) (v := ?v5) rfl (by kernel_rfl) (by kernel_rfl) (by kernel_rfl) (fun _ _ _ h => h) (Or.inl ⟨by rfl, ?y5⟩) hS0 ?r5
 case y5 =>
  intro w_ hS_
  skip
  go_simp
  try with_reducible rfl
 simp only [Act.put, List.getElem_toArray, List.getElem_cons_succ, List.getElem_cons_zero, List.setIfInBounds_toArray, List.set_cons_succ, List.set_cons_zero]
 refine wpAnyH_take (i := 6) (v := .int .u8 (x1 : Int)) rfl (by kernel_rfl) (by kernel_rfl) (by kernel_rfl) (fun _ _ _ h => h) (Or.inl ⟨by rfl, ?y6⟩) hS0 ?r6
 case y6 =>
  intro w_ hS_
  have c_ := hS_.2.1
  go_simp
  try with_reducible rfl
 simp only [Act.put, List.getElem_toArray, List.getElem_cons_succ, List.getElem_cons_zero, List.setIfInBounds_toArray, List.set_cons_succ, List.set_cons_zero]
 refine wpAnyH_take (i := 7) (v := ?v7) rfl (by kernel_rfl) (by kernel_rfl) (by kernel_rfl) (fun _ _ _ h => h) (Or.inl ⟨by rfl, ?y7⟩) hS0 ?r7
 case y7 =>
  intro w_ hS_
  skip
  go_simp
  try with_reducible rfl
 simp only [Act.put, List.getElem_toArray, List.getElem_cons_succ, List.getElem_cons_zero, List.setIfInBounds_toArray, List.set_cons_succ, List.set_cons_zero]
 refine wpAnyH_take (i := 8) (v := ?v8) rfl (by kernel_rfl) (by kernel_rfl) (by kernel_rfl) (fun _ _ _ h => h) (Or.inl ⟨by rfl, ?y8⟩) hS0 ?r8
 case y8 =>
  intro w_ hS_
  skip
  go_simp
  try with_reducible rfl
 simp only [Act.put, List.getElem_toArray, List.getElem_cons_succ, List.getElem_cons_zero, List.setIfInBounds_toArray, List.set_cons_succ, List.set_cons_zero]
 refine wpAnyH_take (i := 9) (v := ?v9) rfl (by kernel_rfl) (by kernel_rfl) (by kernel_rfl) (fun _ _ _ h => h) (Or.inl ⟨by rfl, ?y9⟩) hS0 ?r9
 case y9 =>
  intro w_ hS_
  skip
  go_simp
  try with_reducible rfl
 simp only [Act.put, List.getElem_toArray, List.getElem_cons_succ, List.getElem_cons_zero, List.setIfInBounds_toArray, List.set_cons_succ, List.set_cons_zero]
 refine wpAnyH_take (i := 10) (v := ?v10) rfl (by kernel_rfl) (by kernel_rfl) (by kernel_rfl) (fun _ _ _ h => h) (Or.inl ⟨by rfl, ?y10⟩) hS0 ?r10
 case y10 =>
  intro w_ hS_
  skip
  go_simp
  try with_reducible rfl
 simp only [Act.put, List.getElem_toArray, List.getElem_cons_succ, List.getElem_cons_zero, List.setIfInBounds_toArray, List.set_cons_succ, List.set_cons_zero]
 refine wpAnyH_take (i := 11) (v := ?v11) rfl (by kernel_rfl) (by kernel_rfl) (by kernel_rfl) (fun _ _ _ h => h) (Or.inl ⟨by rfl, ?y11⟩) hS0 ?r11
 case y11 =>
  intro w_ hS_
  skip
  go_simp
  try with_reducible rfl
 simp only [Act.put, List.getElem_toArray, List.getElem_cons_succ, List.getElem_cons_zero, List.setIfInBounds_toArray, List.set_cons_succ, List.set_cons_zero]
 refine wpAnyH_take (i := 12) (v := .int .u8 (x2 : Int)) rfl (by kernel_rfl) (by kernel_rfl) (by kernel_rfl) (fun _ _ _ h => h) (Or.inl ⟨by rfl, ?y12⟩) hS0 ?r12
 case y12 =>
  intro w_ hS_
  have c_ := hS_.2.2.1
  go_simp
  try with_reducible rfl
 simp only [Act.put, List.getElem_toArray, List.getElem_cons_succ, List.getElem_cons_zero, List.setIfInBounds_toArray, List.set_cons_succ, List.set_cons_zero]
 refine wpAnyH_take (i := 13) (v := ?v13) rfl (by kernel_rfl) (by kernel_rfl) (by kernel_rfl) (fun _ _ _ h => h) (Or.inl ⟨by rfl, ?y13⟩) hS0 ?r13
 case y13 =>
  intro w_ hS_
  skip
  go_simp
  try with_reducible rfl
 simp only [Act.put, List.getElem_toArray, List.getElem_cons_succ, List.getElem_cons_zero, List.setIfInBounds_toArray, List.set_cons_succ, List.set_cons_zero]
 refine wpAnyH_take (i := 14) (v := ?v14) rfl (by kernel_rfl) (by kernel_rfl) (by kernel_rfl) (fun _ _ _ h => h) (Or.inl ⟨by rfl, ?y14⟩) hS0 ?r14
 case y14 =>
  intro w_ hS_
  skip
  go_simp
  try with_reducible rfl
 simp only [Act.put, List.getElem_toArray, List.getElem_cons_succ, List.getElem_cons_zero, List.setIfInBounds_toArray, List.set_cons_succ, List.set_cons_zero]
 refine wpAnyH_take (i := 15) (v := ?v15) rfl (by kernel_rfl) (by kernel_rfl) (by kernel_rfl) (fun _ _ _ h => h) (Or.inl ⟨by rfl, ?y15⟩) hS0 ?r15
 case y15 =>
  intro w_ hS_
  skip
  go_simp
  try with_reducible rfl
 simp only [Act.put, List.getElem_toArray, List.getElem_cons_succ, List.getElem_cons_zero, List.setIfInBounds_toArray, List.set_cons_succ, List.set_cons_zero]
 refine wpAnyH_take (i := 16) (v := ?v16) rfl (by kernel_rfl) (by kernel_rfl) (by kernel_rfl) (fun _ _ _ h => h) (Or.inl ⟨by rfl, ?y16⟩) hS0 ?r16
 case y16 =>
  intro w_ hS_
  skip
  go_simp
  try with_reducible rfl
 simp only [Act.put, List.getElem_toArray, List.getElem_cons_succ, List.getElem_cons_zero, List.setIfInBounds_toArray, List.set_cons_succ, List.set_cons_zero]
 refine wpAnyH_take (i := 17) (v := ?v17) rfl (by kernel_rfl) (by kernel_rfl) (by kernel_rfl) (fun _ _ _ h => h) (Or.inl ⟨by rfl, ?y17⟩) hS0 ?r17
 case y17 =>
  intro w_ hS_
  skip
  go_simp
  try with_reducible rfl
 simp only [Act.put, List.getElem_toArray, List.getElem_cons_succ, List.getElem_cons_zero, List.setIfInBounds_toArray, List.set_cons_succ, List.set_cons_zero]
 refine wpAnyH_take (i := 18) (v := .int .u8 (x3 : Int)) rfl (by kernel_rfl) (by kernel_rfl) (by kernel_rfl) (fun _ _ _ h => h) (Or.inl ⟨by rfl, ?y18⟩) hS0 ?r18
 case y18 =>
  intro w_ hS_
  have c_ := hS_.2.2.2.1
  go_simp
  try with_reducible rfl
 simp only [Act.put, List.getElem_toArray, List.getElem_cons_succ, List.getElem_cons_zero, List.setIfInBounds_toArray, List.set_cons_succ, List.set_cons_zero]
 refine wpAnyH_take (i := 19) (v := ?v19) rfl (by kernel_rfl) (by kernel_rfl) (by kernel_rfl) (fun _ _ _ h => h) (Or.inl ⟨by rfl, ?y19⟩) hS0 ?r19
 case y19 =>
  intro w_ hS_
  skip
  go_simp
  try with_reducible rfl
 simp only [Act.put, List.getElem_toArray, List.getElem_cons_succ, List.getElem_cons_zero, List.setIfInBounds_toArray, List.set_cons_succ, List.set_cons_zero]
 refine wpAnyH_take (i := 20) (v := ?v20) rfl (by kernel_rfl) (by kernel_rfl) (by kernel_rfl) (fun _ _ _ h => h) (Or.inl ⟨by rfl, ?y20⟩) hS0 ?r20
 case y20 =>
  intro w_ hS_
  skip
  go_simp
  try with_reducible rfl
 simp only [Act.put, List.getElem_toArray, List.getElem_cons_succ, List.getElem_cons_zero, List.setIfInBounds_toArray, List.set_cons_succ, List.set_cons_zero]
 refine wpAnyH_take (i := 21) (v := ?v21) rfl (by kernel_rfl) (by kernel_rfl) (by kernel_rfl) (fun _ _ _ h => h) (Or.inl ⟨by rfl, ?y21⟩) hS0 ?r21
 case y21 =>
  intro w_ hS_
  skip
  go_simp
  try with_reducible rfl
 simp only [Act.put, List.getElem_toArray, List.getElem_cons_succ, List.getElem_cons_zero, List.setIfInBounds_toArray, List.set_cons_succ, List.set_cons_zero]
 refine wpAnyH_take (i := 22) (v := ?v22) rfl (by kernel_rfl) (by kernel_rfl) (by kernel_rfl) (fun _ _ _ h => h) (Or.inl ⟨by rfl, ?y22⟩) hS0 ?r22
 case y22 =>
  intro w_ hS_
  skip
  go_simp
  try with_reducible rfl
 simp only [Act.put, List.getElem_toArray, List.getElem_cons_succ, List.getElem_cons_zero, List.setIfInBounds_toArray, List.set_cons_succ, List.set_cons_zero]
 refine wpAnyH_take (i := 23) (v := ?v23) rfl (by kernel_rfl) (by kernel_rfl) (by kernel_rfl) (fun _ _ _ h => h) (Or.inl ⟨by rfl, ?y23⟩) hS0 ?r23
 case y23 =>
  intro w_ hS_
  skip
  go_simp
  try with_reducible rfl
 simp only [Act.put, List.getElem_toArray, List.getElem_cons_succ, List.getElem_cons_zero, List.setIfInBounds_toArray, List.set_cons_succ, List.set_cons_zero]
 refine wpAnyH_take (i := 24) (v := .int .u8 (x4 : Int)) rfl (by kernel_rfl) (by kernel_rfl) (by kernel_rfl) (fun _ _ _ h => h) (Or.inl ⟨by rfl, ?y24⟩) hS0 ?r24
 case y24 =>
  intro w_ hS_
  have c_ := hS_.2.2.2.2.1
  go_simp
  try with_reducible rfl
 simp only [Act.put, List.getElem_toArray, List.getElem_cons_succ, List.getElem_cons_zero, List.setIfInBounds_toArray, List.set_cons_succ, List.set_cons_zero]
 refine wpAnyH_take (i := 25) (v := ?v25) rfl (by kernel_rfl) (by kernel_rfl) (by kernel_rfl) (fun _ _ _ h => h) (Or.inl ⟨by rfl, ?y25⟩) hS0 ?r25
 case y25 =>
  intro w_ hS_
  skip
  go_simp
  try with_reducible rfl
 simp only [Act.put, List.getElem_toArray, List.getElem_cons_succ, List.getElem_cons_zero, List.setIfInBounds_toArray, List.set_cons_succ, List.set_cons_zero]
 refine wpAnyH_take (i := 26) (v := ?v26) rfl (by kernel_rfl) (by kernel_rfl) (by kernel_rfl) (fun _ _ _ h => h) (Or.inl ⟨by rfl, ?y26⟩) hS0 ?r26
 case y26 =>
  intro w_ hS_
  skip
  go_simp
  try with_reducible rfl
 simp only [Act.put, List.getElem_toArray, List.getElem_cons_succ, List.getElem_cons_zero, List.setIfInBounds_toArray, List.set_cons_succ, List.set_cons_zero]
 refine wpAnyH_take (i := 27) (v := ?v27) rfl (by kernel_rfl) (by kernel_rfl) (by kernel_rfl) (fun _ _ _ h => h) (Or.inl ⟨by rfl, ?y27⟩) hS0 ?r27
 case y27 =>
  intro w_ hS_
  skip
  go_simp
  try with_reducible rfl
 simp only [Act.put, List.getElem_toArray, List.getElem_cons_succ, List.getElem_cons_zero, List.setIfInBounds_toArray, List.set_cons_succ, List.set_cons_zero]
 refine wpAnyH_take (i := 28) (v := ?v28) rfl (by kernel_rfl) (by kernel_rfl) (by kernel_rfl) (fun _ _ _ h => h) (Or.inl ⟨by rfl, ?y28⟩) hS0 ?r28
 case y28 =>
  intro w_ hS_
  skip
  go_simp
  try with_reducible rfl
 simp only [Act.put, List.getElem_toArray, List.getElem_cons_succ, List.getElem_cons_zero, List.setIfInBounds_toArray, List.set_cons_succ, List.set_cons_zero]
 refine wpAnyH_take (i := 29) (v := ?v29) rfl (by kernel_rfl) (by kernel_rfl) (by kernel_rfl) (fun _ _ _ h => h) (Or.inl ⟨by rfl, ?y29⟩) hS0 ?r29
 case y29 =>
  intro w_ hS_
  skip
  go_simp
  try with_reducible rfl
 simp only [Act.put, List.getElem_toArray, List.getElem_cons_succ, List.getElem_cons_zero, List.setIfInBounds_toArray, List.set_cons_succ, List.set_cons_zero]
 refine wpAnyH_take (i := 30) (v := .int .u8 (x5 : Int)) rfl (by kernel_rfl) (by kernel_rfl) (by kernel_rfl) (fun _ _ _ h => h) (Or.inl ⟨by rfl, ?y30⟩) hS0 ?r30
 case y30 =>
  intro w_ hS_
  have c_ := hS_.2.2.2.2.2.1
  go_simp
  try with_reducible rfl
 simp only [Act.put, List.getElem_toArray, List.getElem_cons_succ, List.getElem_cons_zero, List.setIfInBounds_toArray, List.set_cons_succ, List.set_cons_zero]
 refine wpAnyH_take (i := 31) (v := ?v31) rfl (by kernel_rfl) (by kernel_rfl) (by kernel_rfl) (fun _ _ _ h => h) (Or.inl ⟨by rfl, ?y31⟩) hS0 ?r31
 case y31 =>
  intro w_ hS_
  skip
  go_simp
  try with_reducible rfl
 simp only [Act.put, List.getElem_toArray, List.getElem_cons_succ, List.getElem_cons_zero, List.setIfInBounds_toArray, List.set_cons_succ, List.set_cons_zero]
 refine wpAnyH_take (i := 32) (v := ?v32) rfl (by kernel_rfl) (by kernel_rfl) (by kernel_rfl) (fun _ _ _ h => h) (Or.inl ⟨by rfl, ?y32⟩) hS0 ?r32
 case y32 =>
  intro w_ hS_
  skip
  go_simp
  try with_reducible rfl
 simp only [Act.put, List.getElem_toArray, List.getElem_cons_succ, List.getElem_cons_zero, List.setIfInBounds_toArray, List.set_cons_succ, List.set_cons_zero]
 refine wpAnyH_take (i := 33) (v := ?v33) rfl (by kernel_rfl) (by kernel_rfl) (by kernel_rfl) (fun _ _ _ h => h) (Or.inl ⟨by rfl, ?y33⟩) hS0 ?r33
 case y33 =>
  intro w_ hS_
  skip
  go_simp
  try with_reducible rfl
 simp only [Act.put, List.getElem_toArray, List.getElem_cons_succ, List.getElem_cons_zero, List.setIfInBounds_toArray, List.set_cons_succ, List.set_cons_zero]
 refine wpAnyH_take (i := 34) (v := ?v34) rfl (by kernel_rfl) (by kernel_rfl) (by kernel_rfl) (fun _ _ _ h => h) (Or.inl ⟨by rfl, ?y34⟩) hS0 ?r34
 case y34 =>
  intro w_ hS_
  skip
  go_simp
  try with_reducible rfl
 simp only [Act.put, List.getElem_toArray, List.getElem_cons_succ, List.getElem_cons_zero, List.setIfInBounds_toArray, List.set_cons_succ, List.set_cons_zero]
 refine wpAnyH_take (i := 35) (v := ?v35) rfl (by kernel_rfl) (by kernel_rfl) (by kernel_rfl) (fun _ _ _ h => h) (Or.inl ⟨by rfl, ?y35⟩) hS0 ?r35
 case y35 =>
  intro w_ hS_
  skip
  go_simp
  try with_reducible rfl
 simp only [Act.put, List.getElem_toArray, List.getElem_cons_succ, List.getElem_cons_zero, List.setIfInBounds_toArray, List.set_cons_succ, List.set_cons_zero]
 refine wpAnyH_take (i := 36) (v := .int .u8 (x6 : Int)) rfl (by kernel_rfl) (by kernel_rfl) (by kernel_rfl) (fun _ _ _ h => h) (Or.inl ⟨by rfl, ?y36⟩) hS0 ?r36
 case y36 =>
  intro w_ hS_
  have c_ := hS_.2.2.2.2.2.2.1
  go_simp
  try with_reducible rfl
 simp only [Act.put, List.getElem_toArray, List.getElem_cons_succ, List.getElem_cons_zero, List.setIfInBounds_toArray, List.set_cons_succ, List.set_cons_zero]
 refine wpAnyH_take (i := 37) (v := ?v37) rfl (by kernel_rfl) (by kernel_rfl) (by kernel_rfl) (fun _ _ _ h => h) (Or.inl ⟨by rfl, ?y37⟩) hS0 ?r37
 case y37 =>
  intro w_ hS_
  skip
  go_simp
  try with_reducible rfl
 simp only [Act.put, List.getElem_toArray, List.getElem_cons_succ, List.getElem_cons_zero, List.setIfInBounds_toArray, List.set_cons_succ, List.set_cons_zero]
 refine wpAnyH_take (i := 38) (v := ?v38) rfl (by kernel_rfl) (by kernel_rfl) (by kernel_rfl) (fun _ _ _ h => h) (Or.inl ⟨by rfl, ?y38⟩) hS0 ?r38
 case y38 =>
  intro w_ hS_
  skip
  go_simp
  try with_reducible rfl
 simp only [Act.put, List.getElem_toArray, List.getElem_cons_succ, List.getElem_cons_zero, List.setIfInBounds_toArray, List.set_cons_succ, List.set_cons_zero]
 refine wpAnyH_take (i := 39) (v := ?v39) rfl (by kernel_rfl) (by kernel_rfl) (by kernel_rfl) (fun _ _ _ h => h) (Or.inl ⟨by rfl, ?y39⟩) hS0 ?r39
 case y39 =>
  intro w_ hS_
  skip
  go_simp
  try with_reducible rfl
 simp only [Act.put, List.getElem_toArray, List.getElem_cons_succ, List.getElem_cons_zero, List.setIfInBounds_toArray, List.set_cons_succ, List.set_cons_zero]
 refine wpAnyH_take (i := 40) (v := ?v40) rfl (by kernel_rfl) (by kernel_rfl) (by kernel_rfl) (fun _ _ _ h => h) (Or.inl ⟨by rfl, ?y40⟩) hS0 ?r40
 case y40 =>
  intro w_ hS_
  skip
  go_simp
  try with_reducible rfl
 simp only [Act.put, List.getElem_toArray, List.getElem_cons_succ, List.getElem_cons_zero, List.setIfInBounds_toArray, List.set_cons_succ, List.set_cons_zero]
 refine wpAnyH_take (i := 41) (v := ?v41) rfl (by kernel_rfl) (by kernel_rfl) (by kernel_rfl) (fun _ _ _ h => h) (Or.inl ⟨by rfl, ?y41⟩) hS0 ?r41
 case y41 =>
  intro w_ hS_
  skip
  go_simp
  try with_reducible rfl
 simp only [Act.put, List.getElem_toArray, List.getElem_cons_succ, List.getElem_cons_zero, List.setIfInBounds_toArray, List.set_cons_succ, List.set_cons_zero]
 refine wpAnyH_take (i := 42) (v := .int .u8 (x7 : Int)) rfl (by kernel_rfl) (by kernel_rfl) (by kernel_rfl) (fun _ _ _ h => h) (Or.inl ⟨by rfl, ?y42⟩) hS0 ?r42
 case y42 =>
  intro w_ hS_
  have c_ := hS_.2.2.2.2.2.2.2
  go_simp
  try with_reducible rfl
 simp only [Act.put, List.getElem_toArray, List.getElem_cons_succ, List.getElem_cons_zero, List.setIfInBounds_toArray, List.set_cons_succ, List.set_cons_zero]
 refine wpAnyH_take (i := 43) (v := ?v43) rfl (by kernel_rfl) (by kernel_rfl) (by kernel_rfl) (fun _ _ _ h => h) (Or.inl ⟨by rfl, ?y43⟩) hS0 ?r43
 case y43 =>
  intro w_ hS_
  skip
  go_simp
  try with_reducible rfl
 simp only [Act.put, List.getElem_toArray, List.getElem_cons_succ, List.getElem_cons_zero, List.setIfInBounds_toArray, List.set_cons_succ, List.set_cons_zero]
 refine wpAnyH_take (i := 44) (v := ?v44) rfl (by kernel_rfl) (by kernel_rfl) (by kernel_rfl) (fun _ _ _ h => h) (Or.inl ⟨by rfl, ?y44⟩) hS0 ?r44
 case y44 =>
  intro w_ hS_
  skip
  go_simp
  try with_reducible rfl
 simp only [Act.put, List.getElem_toArray, List.getElem_cons_succ, List.getElem_cons_zero, List.setIfInBounds_toArray, List.set_cons_succ, List.set_cons_zero]
 refine wpAnyH_take (i := 45) (v := ?v45) rfl (by kernel_rfl) (by kernel_rfl) (by kernel_rfl) (fun _ _ _ h => h) (Or.inl ⟨by rfl, ?y45⟩) hS0 ?r45
 case y45 =>
  intro w_ hS_
  skip
  go_simp
  try with_reducible rfl
 simp only [Act.put, List.getElem_toArray, List.getElem_cons_succ, List.getElem_cons_zero, List.setIfInBounds_toArray, List.set_cons_succ, List.set_cons_zero]
 refine wpAnyH_take (i := 46) (v := ?v46) rfl (by kernel_rfl) (by kernel_rfl) (by kernel_rfl) (fun _ _ _ h => h) (Or.inl ⟨by rfl, ?y46⟩) hS0 ?r46
 case y46 =>
  intro w_ hS_
  skip
  go_simp
  try with_reducible rfl
 simp only [Act.put, List.getElem_toArray, List.getElem_cons_succ, List.getElem_cons_zero, List.setIfInBounds_toArray, List.set_cons_succ, List.set_cons_zero]
 refine wpAnyH_done (by kernel_rfl) ?_ _
 refine NoPanic.normal ?_
 go_wp2
 go_ret
 refine ⟨congrArg Ending.returned (congrArg (Value.int IntKind.u64) (?_ : (_ : Int) = _)), hbd⟩
 clear hS hS0 hbd
 rw [show IntKind.wrap .u64 (x0 : Int) = (x0 : Int) from u64_wrap_id _ (by omega) (by omega)]
 rw [show IntKind.wrap .u64 (x1 : Int) = (x1 : Int) from u64_wrap_id _ (by omega) (by omega)]
 rw [show IntKind.wrap .u64 (x2 : Int) = (x2 : Int) from u64_wrap_id _ (by omega) (by omega)]
 rw [show IntKind.wrap .u64 (x3 : Int) = (x3 : Int) from u64_wrap_id _ (by omega) (by omega)]
 rw [show IntKind.wrap .u64 (x4 : Int) = (x4 : Int) from u64_wrap_id _ (by omega) (by omega)]
 rw [show IntKind.wrap .u64 (x5 : Int) = (x5 : Int) from u64_wrap_id _ (by omega) (by omega)]
 rw [show IntKind.wrap .u64 (x6 : Int) = (x6 : Int) from u64_wrap_id _ (by omega) (by omega)]
 rw [show IntKind.wrap .u64 (x7 : Int) = (x7 : Int) from u64_wrap_id _ (by omega) (by omega)]
 rw [show IntKind.wrap .u64 ((x1 : Int) * 256) = (x1 : Int) * 256 from u64_wrap_id _ (by omega) (by omega)]
 rw [show IntKind.wrap .u64 ((x2 : Int) * 65536) = (x2 : Int) * 65536 from u64_wrap_id _ (by omega) (by omega)]
 rw [show IntKind.wrap .u64 ((x3 : Int) * 16777216) = (x3 : Int) * 16777216 from u64_wrap_id _ (by omega) (by omega)]
 rw [show IntKind.wrap .u64 ((x4 : Int) * 4294967296) = (x4 : Int) * 4294967296 from u64_wrap_id _ (by omega) (by omega)]
 rw [show IntKind.wrap .u64 ((x5 : Int) * 1099511627776) = (x5 : Int) * 1099511627776 from u64_wrap_id _ (by omega) (by omega)]
 rw [show IntKind.wrap .u64 ((x6 : Int) * 281474976710656) = (x6 : Int) * 281474976710656 from u64_wrap_id _ (by omega) (by omega)]
 rw [show IntKind.wrap .u64 ((x7 : Int) * 72057594037927936) = (x7 : Int) * 72057594037927936 from u64_wrap_id _ (by omega) (by omega)]
 rw [show bits .or .u64 ((x0 : Int)) ((x1 : Int) * 256) = (x0 : Int) + (x1 : Int) * 256 by apply u64_or8 <;> omega]
 rw [show bits .or .u64 ((x0 : Int) + (x1 : Int) * 256) ((x2 : Int) * 65536) = (x0 : Int) + (x1 : Int) * 256 + (x2 : Int) * 65536 by apply u64_or16 <;> omega]
 rw [show bits .or .u64 ((x0 : Int) + (x1 : Int) * 256 + (x2 : Int) * 65536) ((x3 : Int) * 16777216) = (x0 : Int) + (x1 : Int) * 256 + (x2 : Int) * 65536 + (x3 : Int) * 16777216 by apply u64_or24 <;> omega]
 rw [show bits .or .u64 ((x0 : Int) + (x1 : Int) * 256 + (x2 : Int) * 65536 + (x3 : Int) * 16777216) ((x4 : Int) * 4294967296) = (x0 : Int) + (x1 : Int) * 256 + (x2 : Int) * 65536 + (x3 : Int) * 16777216 + (x4 : Int) * 4294967296 by apply u64_or32 <;> omega]
 rw [show bits .or .u64 ((x0 : Int) + (x1 : Int) * 256 + (x2 : Int) * 65536 + (x3 : Int) * 16777216 + (x4 : Int) * 4294967296) ((x5 : Int) * 1099511627776) = (x0 : Int) + (x1 : Int) * 256 + (x2 : Int) * 65536 + (x3 : Int) * 16777216 + (x4 : Int) * 4294967296 + (x5 : Int) * 1099511627776 by apply u64_or40 <;> omega]
 rw [show bits .or .u64 ((x0 : Int) + (x1 : Int) * 256 + (x2 : Int) * 65536 + (x3 : Int) * 16777216 + (x4 : Int) * 4294967296 + (x5 : Int) * 1099511627776) ((x6 : Int) * 281474976710656) = (x0 : Int) + (x1 : Int) * 256 + (x2 : Int) * 65536 + (x3 : Int) * 16777216 + (x4 : Int) * 4294967296 + (x5 : Int) * 1099511627776 + (x6 : Int) * 281474976710656 by apply u64_or48 <;> omega]
 rw [show bits .or .u64 ((x0 : Int) + (x1 : Int) * 256 + (x2 : Int) * 65536 + (x3 : Int) * 16777216 + (x4 : Int) * 4294967296 + (x5 : Int) * 1099511627776 + (x6 : Int) * 281474976710656) ((x7 : Int) * 72057594037927936) = (x0 : Int) + (x1 : Int) * 256 + (x2 : Int) * 65536 + (x3 : Int) * 16777216 + (x4 : Int) * 4294967296 + (x5 : Int) * 1099511627776 + (x6 : Int) * 281474976710656 + (x7 : Int) * 72057594037927936 by apply u64_or56 <;> omega]
 clear q0 q1 q2 q3 q4 q5 q6 q7 p0 p1 p2 p3 p4 p5 p6 p7 h0 h1 h2 h3 h4 h5 h6 h7 hn
 omega
end Go.Proofs.YtejcggjmbjmoeaaGreatDoor
namespace Go.Proofs.YtejcggjmbjmoeaaGreatDoor
set_option maxRecDepth 100000
open Go Go.RowKit Go.Sort
attribute [local go_sem] setCell_drewN alloc_drewN
def vlg : List VT → Int → Int
 | [], l => l
 | .mk _ d ps :: xs, l => if 0 ≤ l then vlg xs (vlg ps (l - 1 - ((d.length / 64 : Nat) : Int))) else l
def vlf (X : VT) (l : Int) : Int := vlg X.parts (l - 1 - ((X.dat.length / 64 : Nat) : Int))
theorem vlg_cons (x : VT) (xs : List VT) (l : Int) : vlg (x :: xs) l = if 0 ≤ l then vlg xs (vlf x l) else l := by
 cases x
 rw [vlg]
 rfl
theorem vlg_neg {ps : List VT} {l : Int} (h : l < 0) : vlg ps l = l := by
 cases ps with
 | nil => rw [vlg]
 | cons x xs => rw [vlg_cons, if_neg (by omega)]
theorem nm_dat {X : VT} (h : NmT X) : X.dat.length ≤ 140737488351232 ∧ ∀ p ∈ X.parts, NmT p := by
 cases h with
 | mk n d ps hn hd h => exact ⟨hd, h⟩
theorem vlg_bd : ∀ (ps : List VT) (l : Int), (∀ p ∈ ps, NmT p) → -4398046511104 ≤ l → l ≤ 10000 → -4398046511104 ≤ vlg ps l ∧ vlg ps l ≤ 10000
 | [], l, _, h1, h2 => by rw [vlg]; exact ⟨h1, h2⟩
 | .mk n d ps :: xs, l, h, h1, h2 => by
  have hx := nm_dat (h (.mk n d ps) (by simp))
  have hd : d.length ≤ 140737488351232 := hx.1
  rw [vlg]
  by_cases h0 : 0 ≤ l
  ·rw [if_pos h0]
   obtain ⟨b1, b2⟩ := vlg_bd ps (l - 1 - ((d.length / 64 : Nat) : Int)) hx.2 (by omega) (by omega)
   exact vlg_bd xs _ (fun p hp => h p (by simp [hp])) b1 b2
  ·rw [if_neg h0]
   exact ⟨h1, h2⟩
set_option maxRecDepth 100000 in
set_option maxHeartbeats 8000000 in
theorem a_valueLeft {W : World} {S : Nat → Prop} {x : VR} {X : VT} (h : VtM W S x X) : ∀ (w : World) (l : Int), Below W.heap.size W w → 0 ≤ l → l ≤ 10000 → Calls Tryz.prog 24 #[.agg (vrv x), .int .i64 l] w fun e w' => e = .returned (.int .i64 (vlf X l)) ∧ Below w.heap.size w w' := by
 induction h with
 | mk x bs xs ps hn hdl hbl hd hdc hds hpl hxl hpc hpm hps hP hs ih =>
  intro w l hw h0 h1
  have hnp : ∀ p ∈ ps, NmT p := fun p hp => by
   obtain ⟨i, hi, e⟩ := List.getElem_of_mem hp
   have := (hs i hi).nm
   rw [gvt, List.getD_eq_getElem?_getD, List.getElem?_eq_getElem hi] at this
   rw [← e]
   exact this
  have hpsb : ∀ i, i < ps.length → (∀ b off, x.pa = some ⟨b, off, none⟩ → b < W.heap.size) := fun i hi b off e => (hps _ ((lv_pos (by omega)).trans e)).2
  clear hs hps hds hd
  obtain ⟨xn, xda, xdl, xdc, xpa, xpl, xpc⟩ := x
  simp only at hn hdl hdc hpl hpc hP hpsb
  subst hpl
  unfold vrv vrw
  obtain ⟨R, hR⟩ : ∃ R, vlf (.mk xn bs ps) l = R := ⟨_, rfl⟩
  rw [hR]
  have eq64 : ((xdl / 64 : Nat) : Int) = (xdl : Int) / 64 := by omega
  have eR : R = vlg (ps.drop 0) (l - 1 - (xdl : Int) / 64) := by rw [← eq64, ← hR, hdl]; rfl
  have bd0 : -4398046511104 ≤ l - 1 - (xdl : Int) / 64 ∧ l - 1 - (xdl : Int) / 64 ≤ 10000 := by omega
  have q1 : IntKind.wrap .i64 (l - 1) = l - 1 := by rw [IntKind.wrap_i64]; omega
  have q2 : IntKind.wrap .i64 (l - 1 - (xdl : Int) / 64) = l - 1 - (xdl : Int) / 64 := by rw [IntKind.wrap_i64]; omega
  have q3 : IntKind.wrap .i64 ((xdl : Int) / 64) = (xdl : Int) / 64 := by rw [IntKind.wrap_i64]; omega
  clear hdl eq64 hbl
  have hb : Below w.heap.size w (w.alloc (.cells #[.int .u64 (xn : Int), .slice xda xdl xdc, .slice xpa ps.length xpc] 27)) := (Below.refl _ _).alloc (Nat.le_refl _) _
  have r0 := hp1_0 w (.cells #[.int .u64 (xn : Int), .slice xda xdl xdc, .slice xpa ps.length xpc] 27)
  have HP := hide hP
  have HI := hide ih
  replace eR := hide eR
  clear hR hP ih
  go_enter Tryz.func24, Tryz.ntmps24
  go_upto_region 1 with (fail)
  generalize w.alloc (.cells #[.int .u64 (xn : Int), .slice xda xdl xdc, .slice xpa ps.length xpc] 27) = w0 at *
  have c1 := cell_of_row _ _ 1 _ _ _ r0
  go_wp2_with (fail)
  clear c1
  go_loopw [1, 5] (fun lv i wr => ∃ (k : Nat) (l2 : Int), k ≤ ps.length ∧ i = .int .i64 k ∧ lv = .int .i64 l2 ∧ R = vlg (ps.drop k) l2 ∧ -4398046511104 ≤ l2 ∧ l2 ≤ 10000 ∧ Below w0.heap.size w0 wr) (fun _ i _ => ps.length - (intOf i).toNat)
  case atStart => exact ⟨0, _, by omega, rfl, rfl, eR.out, bd0.1, bd0.2, Below.refl _ _⟩
  case round =>
   clear eR bd0 q1 q2 q3
   obtain ⟨k, l2, hk, rfl, rfl, eR, b1, b2, hby⟩ := hrel
   have rr := keep hby r0
   have c2 := cell_of_row _ _ 2 _ _ _ rr
   have hbw := Below.after hb hby
   by_cases hlt : k < ps.length
   ·have hd2 : decide ((k : Int) < (ps.length : Int)) = true := by simp; omega
    by_cases hl0 : 0 ≤ l2
    ·have hd3 : decide (l2 ≥ 0) = true := by simpa using hl0
     obtain ⟨b, off, hxe, hra⟩ := HP.out k hlt
     subst hxe
     have hbl : b < W.heap.size := hpsb k hlt _ _ rfl
     have hpw := rangeS_keep2 hra (hw.trans (hbw.mono hw.size)) hbl
     rw [vdrop ps k hlt, vlg_cons, if_pos hl0] at eR
     have hbd := vlg_bd [gvt ps k] l2 (fun p hp => by
      have : p = gvt ps k := by simpa using hp
      subst this
      exact hnp _ (by rw [gvt, List.getD_eq_getElem?_getD, List.getElem?_eq_getElem hlt]; exact List.getElem_mem hlt)) b1 b2
     rw [vlg_cons, if_pos hl0, vlg] at hbd
     have cI := HI.out k hlt wr l2 (hw.trans (hbw.mono hw.size)) hl0 b2
     generalize vlf (gvt ps k) l2 = L3 at *
     generalize gx xs k = z at *
     obtain ⟨zn, zda, zdl, zdc, zpa, zpl, zpc⟩ := z
     unfold vrv vrw at *
     replace cI := hide cI
     replace eR := hide eR
     clear hra HP HI
     go_wp2_with (first | (refine wpList_load_mid rfl 27 _ rfl b (off + k * 3) rfl _ _ hpw Tryz.underlying27 rfl infoV ?_) | fail)
     refine cI.out.mono ?_
     rintro e_ w3 ⟨rfl, hb3⟩
     replace hby := Below.after hby hb3
     clear cI hb3 hpw c2 rr
     go_wp2_with (fail)
     refine ⟨⟨k + 1, L3, by omega, by go_num, rfl, eR.out, hbd.1, hbd.2, hby⟩, ?_⟩
     simp [intOf]; omega
    ·have hd3 : decide (l2 ≥ 0) = false := by simpa using hl0
     rw [vlg_neg (by omega)] at eR
     replace eR := hide eR
     clear HP HI
     go_wp2_with (fail)
     go_ret
     exact ⟨by rw [eR.out]; rfl, hbw⟩
   ·have hd2 : decide ((k : Int) < (ps.length : Int)) = false := by simp; omega
    rw [List.drop_of_length_le (by omega), vlg] at eR
    replace eR := hide eR
    clear HP HI
    go_wp2_with (fail)
    go_ret
    exact ⟨by rw [eR.out]; rfl, hbw⟩
def bgV (X : VT) : Bool := decide (vlf X 10000 < 0)
set_option maxRecDepth 100000 in
set_option maxHeartbeats 8000000 in
theorem a_bigValue {S : Nat → Prop} {x : VR} {X : VT} (w : World) (h : VtM w S x X) : Calls Tryz.prog 8 #[.agg (vrv x)] w fun e w' => e = .returned (.bool (bgV X)) ∧ Below w.heap.size w w' := by
 have cV := fun V hV => a_valueLeft h V 10000 hV (by decide) (by decide)
 clear h
 unfold bgV
 generalize vlf X 10000 = L at *
 obtain ⟨zn, zda, zdl, zdc, zpa, zpl, zpc⟩ := x
 unfold vrv vrw at *
 have hb : Below w.heap.size w (w.alloc (.cells #[.int .u64 (zn : Int), .slice zda zdl zdc, .slice zpa zpl zpc] 27)) := (Below.refl _ _).alloc (Nat.le_refl _) _
 have r0 := hp1_0 w (.cells #[.int .u64 (zn : Int), .slice zda zdl zdc, .slice zpa zpl zpc] 27)
 have cV1 := cV _ hb
 clear cV
 go_enter Tryz.func8, Tryz.ntmps8
 go_upto_region 1 with (fail)
 generalize w.alloc (.cells #[.int .u64 (zn : Int), .slice zda zdl zdc, .slice zpa zpl zpc] 27) = w0 at *
 go_wp2_with (first | (refine wpList_load_want rfl 27 _ rfl w.heap.size rfl 27 #[.int .u64 (zn : Int), .slice zda zdl zdc, .slice zpa zpl zpc] (0, 0) _ r0 Tryz.underlying27 rfl infoV ?_) | fail)
 refine cV1.mono ?_
 rintro e_ w1 ⟨rfl, hb1⟩
 replace hb := Below.after hb hb1
 go_wp2_with (fail)
 go_ret
 exact ⟨rfl, hb⟩
end Go.Proofs.YtejcggjmbjmoeaaGreatDoor
namespace Go.Proofs.YtejcggjmbjmoeaaGreatDoor
set_option maxRecDepth 100000
open Go Go.RowKit Go.Sort
attribute [local go_sem] setCell_drewN alloc_drewN
theorem there_of_row {W : World} {g : Nat} {cs : Array Value} {t : TypeId} (h : W.heap[g]? = some (.cells cs t (0, 0))) {o n : Nat} (hn : o + n ≤ cs.size) : W.there g o n := by
 intro j hj
 constructor
 ·rw [cell_of_row _ _ _ _ _ _ h]
  simp; omega
 ·simp [World.frozen?, h]
def hzr : List Value := [.int .i64 0, .int .i64 0, .int .u64 0, .int .u64 0, .slice none 0 0]
def hmk : List Value := [.int .i64 (-77), .int .i64 0, .int .u64 0, .int .u64 0, .slice none 0 0]
inductive HSl (W : World) (S : Nat → Prop) : Value → List Slt → Prop
 | mk (G : Nat) (ts : List Slt) (us : List Value) (hl : ts.length ≤ 10000) (hG : G < W.heap.size) (hS : S G)
  (h : ∀ i, i < ts.length → W.rangeAt G (i * 5) (srow (gs ts i) (gvs us i)) ∧ Sok (gs ts i))
  (hm : ∀ i, ts.length ≤ i → i < ts.length + 3 → W.rangeAt G (i * 5) hmk)
  (hs : ∀ i, i < ts.length → HSl W S (gvs us i) (gs ts i).sub) : HSl W S (.slice (some ⟨G, 0, none⟩) ts.length (ts.length + 3)) ts
theorem HSl.slo {W : World} {S : Nat → Prop} {v : Value} {ts : List Slt} (h : HSl W S v ts) : Slo W v ts := by
 induction h with
 | mk G ts us hl hG hS h hm hs ih =>
  refine .mk (some ⟨G, 0, none⟩) _ ts us (by omega) (by omega) (fun e => by cases e) (fun i hi => ⟨G, 0, rfl, hG, ?_, (h i hi).2⟩) ih
  rw [Nat.zero_add]
  exact (h i hi).1
theorem HSl.keep {W V : World} {S T : Nat → Prop} {v : Value} {ts : List Slt} (h : HSl W S v ts) (hs : W.heap.size ≤ V.heap.size) (hb : ∀ b, b < W.heap.size → S b → V.heap[b]? = W.heap[b]? ∧ T b) : HSl V T v ts := by
 induction h with
 | mk G ts us hl hG hS h hm _ ih =>
  exact .mk G ts us hl (by omega) (hb G hG hS).2 (fun i hi => ⟨range_same (h i hi).1 (hb G hG hS).1, (h i hi).2⟩) (fun i h1 h2 => range_same (hm i h1 h2) (hb G hG hS).1) ih
theorem HSl.form {W : World} {S : Nat → Prop} {v : Value} {ts : List Slt} (h : HSl W S v ts) : ∃ G, v = .slice (some ⟨G, 0, none⟩) ts.length (ts.length + 3) ∧ S G := by
 cases h with
 | mk G _ us hl hG hS h hm hs => exact ⟨G, rfl, hS⟩
theorem slL_len : ∀ (ts : List Slt) (l : Int), 0 ≤ slL ts l → (ts.length : Int) ≤ l
 | [], l, h => by rw [slL] at h; simpa using h
 | t :: ts, l, h => by
  rw [slL_cons] at h
  split at h
  ·have h1 := slL_len ts _ h
   have h2 := (slL_le t.sub (l - 1)).1
   rw [List.length_cons]; omega
  ·omega
theorem slL_at : ∀ (ts : List Slt) (l : Int) (i : Nat), 0 ≤ slL ts l → i < ts.length → ∃ l', l' ≤ l ∧ 0 ≤ slL (gs ts i).sub l'
 | [], l, i, _, hi => by simp at hi
 | t :: ts, l, i, h, hi => by
  rw [slL_cons] at h
  split at h
  ·have h2 := (slL_le t.sub (l - 1)).1
   cases i with
   | zero => exact ⟨l - 1, by omega, by have := (slL_le ts (slL t.sub (l - 1))).1; show 0 ≤ slL t.sub (l - 1); omega⟩
   | succ i =>
    obtain ⟨l', h3, h4⟩ := slL_at ts _ i h (by simpa using hi)
    exact ⟨l', by omega, h4⟩
  ·omega
def hrow (ts : List Slt) (us : List Value) (k i : Nat) : List Value := if i < k then (if i < ts.length then srow (gs ts i) (gvs us i) else hmk) else hzr
def Hrw (W : World) (G : Nat) (ts : List Slt) (us : List Value) (k : Nat) : Prop := ∃ cs, W.heap[G]? = some (.cells cs 88 (0, 0)) ∧ cs.size = (ts.length + 3) * 5 ∧ ∀ i c, i < ts.length + 3 → c < 5 → cs[i * 5 + c]? = (hrow ts us k i)[c]?
theorem Hrw.keep {W V : World} {G : Nat} {ts : List Slt} {us : List Value} {k : Nat} (h : Hrw W G ts us k) (hb : V.heap[G]? = W.heap[G]?) : Hrw V G ts us k := by
 obtain ⟨cs, h1, h2⟩ := h
 exact ⟨cs, hb.trans h1, h2⟩
theorem Hrw.range {W : World} {G : Nat} {ts : List Slt} {us : List Value} {k i : Nat} (h : Hrw W G ts us k) (hi : i < ts.length + 3) (hl : (hrow ts us k i).length = 5) : W.rangeAt G (i * 5) (hrow ts us k i) := by
 obtain ⟨cs, h1, h2, h3⟩ := h
 intro j v hv
 have hj := (List.getElem?_eq_some_iff.1 hv).1
 rw [cell_of_row _ _ _ _ _ _ h1, h3 i j hi (by omega)]
 exact hv
theorem hrow_len (ts : List Slt) (us : List Value) (k i : Nat) : (hrow ts us k i).length = 5 := by
 unfold hrow
 split
 ·split <;> rfl
 ·rfl
theorem infoSl : ∃ i, Tryz.prog.info? 88 = some i ∧ i.zero = some (.agg #[.int .i64 0, .int .i64 0, .int .u64 0, .int .u64 0, .slice none 0 0]) ∧ i.size = 5 ∧ i.bytes = 56 := ⟨_, rfl, rfl, rfl, rfl⟩
theorem make_sl (n : Nat) (hn : n ≤ 10003) (w : World) : ∃ cs, (Instr.makeSlice 22 (.int .i64 (n : Int)) (.int .i64 (n : Int))).run Tryz.prog w = .ok (.slice (some ⟨w.heap.size, 0, none⟩) n n) (w.alloc (.cells cs 88)) ∧ cs.size = n * 5 ∧ ∀ i c, i < n → c < 5 → cs[i * 5 + c]? = hzr[c]? := by
 obtain ⟨i0, hi, hz0, hz1, hz2⟩ := infoSl
 have h := run_make (P := Tryz.prog) w 22 88 i0 _ Tryz.underlying22 hi hz0 .i64 .i64 (n : Int) (n : Int) (by omega) (by omega) (by rw [hz2]; omega) (by omega)
 rw [hz1, Int.toNat_natCast] at h
 refine ⟨_, h, by simp [madeCells], fun i c h1 h2 => ?_⟩
 have h3 : i * 5 + c < n * 5 := by omega
 have h4 : (i * 5 + c) % 5 = c := by omega
 rcases (by omega : c = 0 ∨ c = 1 ∨ c = 2 ∨ c = 3 ∨ c = 4) with rfl | rfl | rfl | rfl | rfl
 ·rw [Nat.add_zero] at h3 h4 ⊢
  simp [madeCells, Value.cells, hzr, h3, h4]
 all_goals simp [madeCells, Value.cells, hzr, h3, h4]
theorem Hrw.mark {W : World} {G : Nat} {ts : List Slt} {us : List Value} {k : Nat} (h : Hrw W G ts us k) (hk : ts.length ≤ k) (hk3 : k < ts.length + 3) : Hrw (W.setCell ⟨G, k * 5, none⟩ (.int .i64 (-77))) G ts us (k + 1) := by
 obtain ⟨cs, h1, h2, h3⟩ := h
 refine ⟨_, heap_setCell_same W G (k * 5) cs _ _ h1, by simp [h2], fun i c hi hc => ?_⟩
 rw [Array.getElem?_setIfInBounds]
 by_cases e : k * 5 = i * 5 + c
 ·have e1 : i = k := by omega
  have e2 : c = 0 := by omega
  subst e1 e2
  rw [if_pos e, if_pos (by omega)]
  unfold hrow
  rw [if_pos (by omega), if_neg (by omega)]; rfl
 ·rw [if_neg e, h3 i c hi hc]
  by_cases e1 : i = k
  ·subst e1
   have c0 : c ≠ 0 := by omega
   unfold hrow
   rw [if_neg (by omega), if_pos (by omega), if_neg (by omega)]
   rcases (by omega : c = 1 ∨ c = 2 ∨ c = 3 ∨ c = 4) with rfl | rfl | rfl | rfl <;> rfl
  ·unfold hrow
   by_cases e2 : i < k
   ·rw [if_pos e2, if_pos (show i < k + 1 by omega)]
   ·rw [if_neg e2, if_neg (show ¬ i < k + 1 by omega)]
theorem Hrw.slot {W V : World} {G : Nat} {ts : List Slt} {us : List Value} {k : Nat} {u v : Value} (h : Hrw W G ts us k) (hk : k < ts.length) (hu : us.length = k) (hV : V.heap[G]? = ((W.setCell ⟨G, k * 5, none⟩ (.int .i64 (-77))).setCells G (k * 5) (srow (gs ts k) u)).heap[G]?) : Hrw (V.setCell ⟨G, k * 5 + 4, none⟩ v) G ts (us ++ [v]) (k + 1) := by
 obtain ⟨cs, h1, h2, h3⟩ := h
 have s1 := heap_setCell_same W G (k * 5) cs _ (.int .i64 (-77)) h1
 have s2 : ((W.setCell ⟨G, k * 5, none⟩ (.int .i64 (-77))).setCells G (k * 5) (srow (gs ts k) u)).heap[G]? = _ :=
  heap_setCell_same _ G (k * 5 + 1 + 1 + 1 + 1) _ _ u (heap_setCell_same _ G (k * 5 + 1 + 1 + 1) _ _ (.int .u64 ((gs ts k).most : Int)) (heap_setCell_same _ G (k * 5 + 1 + 1) _ _ (.int .u64 ((gs ts k).least : Int)) (heap_setCell_same _ G (k * 5 + 1) _ _ (.int .i64 (gs ts k).kind) (heap_setCell_same _ G (k * 5) _ _ (.int .i64 (gs ts k).no) s1))))
 refine ⟨_, heap_setCell_same V G (k * 5 + 4) _ _ v (hV.trans s2), by simp [h2], fun i c hi hc => ?_⟩
 simp only [Array.getElem?_setIfInBounds, Array.size_setIfInBounds]
 by_cases e1 : i = k
 ·subst e1
  have e3 : hrow ts (us ++ [v]) (i + 1) i = srow (gs ts i) v := by
   unfold hrow; rw [if_pos (by omega), if_pos hk, gvs_top _ _ _ hu]
  rw [e3]
  have hb : i * 5 + c < cs.size := by omega
  rcases (by omega : c = 0 ∨ c = 1 ∨ c = 2 ∨ c = 3 ∨ c = 4) with rfl | rfl | rfl | rfl | rfl
  ·rw [if_neg (by omega), if_neg (by omega), if_neg (by omega), if_neg (by omega), if_neg (by omega), if_pos (by omega), if_pos (by omega)]; rfl
  ·rw [if_neg (by omega), if_neg (by omega), if_neg (by omega), if_neg (by omega), if_pos (by omega), if_pos (by omega)]; rfl
  ·rw [if_neg (by omega), if_neg (by omega), if_neg (by omega), if_pos (by omega), if_pos (by omega)]; rfl
  ·rw [if_neg (by omega), if_neg (by omega), if_pos (by omega), if_pos (by omega)]; rfl
  ·rw [if_pos (by omega), if_pos (by omega)]; rfl
 ·rw [if_neg (by omega), if_neg (by omega), if_neg (by omega), if_neg (by omega), if_neg (by omega), if_neg (by omega), if_neg (by omega), h3 i c hi hc]
  unfold hrow
  by_cases e2 : i < k
  ·rw [if_pos e2, if_pos (by omega), if_pos (by omega), if_pos (by omega), gvs_low _ _ _ (by omega)]
  ·rw [if_neg e2, if_neg (by omega)]
theorem heap_setCells_else {g k : Nat} (hk : k ≠ g) : ∀ (vs : List Value) (o : Nat) (w : World), (w.setCells g o vs).heap[k]? = w.heap[k]?
 | [], _, _ => rfl
 | v :: r, o, w => (heap_setCells_else hk r (o + 1) _).trans (heap_setCell_other w _ k v hk)
theorem below_setCells {n g : Nat} {w0 : World} (hg : n ≤ g) : ∀ (vs : List Value) (o : Nat) (w : World), Below n w0 w → Below n w0 (w.setCells g o vs)
 | [], _, _, h => h
 | v :: r, o, _, h => below_setCells hg r (o + 1) _ (h.setCell hg v)
theorem size_setCells {g : Nat} : ∀ (vs : List Value) (o : Nat) (w : World), (w.setCells g o vs).heap.size = w.heap.size
 | [], _, _ => rfl
 | v :: r, o, w => by
  show ((w.setCell ⟨g, o, none⟩ v).setCells g (o + 1) r).heap.size = _
  rw [size_setCells r (o + 1)]; simp
theorem setCells_row {g : Nat} {t : TypeId} : ∀ (vs : List Value) (o : Nat) (w : World) (cs : Array Value), w.heap[g]? = some (.cells cs t (0, 0)) → ∃ cs', (w.setCells g o vs).heap[g]? = some (.cells cs' t (0, 0)) ∧ cs'.size = cs.size
 | [], _, _, cs, h => ⟨cs, h, rfl⟩
 | v :: r, o, w, cs, h => by
  obtain ⟨cs', h1, h2⟩ := setCells_row r (o + 1) _ _ (heap_setCell_same w g o cs t v h)
  exact ⟨cs', h1, by rw [h2]; simp⟩
end Go.Proofs.YtejcggjmbjmoeaaGreatDoor
namespace Go.Proofs.YtejcggjmbjmoeaaGreatDoor
set_option maxRecDepth 100000
open Go Go.RowKit Go.Sort
attribute [local go_sem] setCell_drewN alloc_drewN
/-! A value in memory of its own, with marks behind each list. -/
def pzr : List Value := [.int .u64 0, .slice none 0 0, .slice none 0 0]
def pmk : List Value := [.int .u64 4711, .slice none 0 0, .slice none 0 0]
theorem Bys.of_pre8 {W : World} {g : Nat} {l r : List Int} {t : TypeId} (hg : W.heap[g]? = some (.cells (irow .u8 (l ++ r)) t (0, 0))) (hl : l.length ≤ 9223372036854775807) (hz : ∀ z ∈ l, 0 ≤ z ∧ z < 256) (cap : Nat) : Bys W (.slice (some ⟨g, 0, none⟩) l.length cap) l := by
 refine ⟨_, cap, rfl, hl, fun j hj => ⟨g, 0, rfl, lt_of_row hg, ?_⟩, hz⟩
 rw [Nat.zero_add]
 have := irow_cell hg (j := j) (by simp; omega)
 rwa [show (l ++ r).getD j 0 = l.getD j 0 by simp [List.getD_eq_getElem?_getD, List.getElem?_append_left hj]] at this
theorem head_bysV {W : World} {g n : Nat} {e : List B} {m : List Int} {t : TypeId} (hg : W.heap[g]? = some (.cells (irow .u8 (bl e ++ m)) t (0, 0))) (hn : e.length = n) (hl : n ≤ 140737488355000) (cap : Nat) : BysB W (.slice (some ⟨g, 0, none⟩) n cap) e := by
 have h := Bys.of_pre8 hg (by rw [bl_len]; omega) (bl_bnd e) cap
 rw [bl_len, hn] at h
 exact ⟨h, by omega, fun a l c h h2 => by cases h; cases h2⟩
inductive HVt (W : World) (S : Nat → Prop) : VR → VT → Prop
 | mk (n D G : Nat) (d : List B) (xs : List VR) (ps : List VT) (hn : n < 18446744073709551616) (hd : d.length ≤ 640063) (hp : ps.length ≤ 10000) (hD : D < W.heap.size) (hSD : S D) (hG : G < W.heap.size) (hSG : S G)
  (hc : W.heap[D]? = some (.cells (irow .u8 (bl d ++ [7, 8, 9])) 5 (0, 0))) (hx : xs.length = ps.length)
  (h : ∀ i, i < ps.length → W.rangeAt G (i * 3) (vrv (gx xs i)).toList)
  (hm : ∀ i, ps.length ≤ i → i < ps.length + 3 → W.rangeAt G (i * 3) pmk)
  (hs : ∀ i, i < ps.length → HVt W S (gx xs i) (gvt ps i)) : HVt W S ⟨n, some ⟨D, 0, none⟩, d.length, d.length + 3, some ⟨G, 0, none⟩, ps.length, ps.length + 3⟩ (.mk n d ps)
theorem HVt.vtm {W : World} {S : Nat → Prop} {x : VR} {X : VT} (h : HVt W S x X) : VtM W S x X := by
 induction h with
 | mk n D G d xs ps hn hd hp hD hSD hG hSG hc hx h hm hs ih =>
  refine .mk ⟨n, some ⟨D, 0, none⟩, d.length, d.length + 3, some ⟨G, 0, none⟩, ps.length, ps.length + 3⟩ d xs ps hn rfl (by omega) (head_bysV hc rfl (by omega) _) (by show d.length ≤ d.length + 3; omega) (fun a e => ?_) rfl hx (by show ps.length ≤ ps.length + 3; omega) (by omega) (fun a e => ?_) (fun i hi => ⟨G, 0, rfl, ?_⟩) ih
  ·obtain rfl := Option.some.inj (lv_some e)
   exact ⟨hSD, hD⟩
  ·obtain rfl := Option.some.inj (lv_some e)
   exact ⟨hSG, hG⟩
  ·rw [Nat.zero_add]
   exact h i hi
theorem HVt.keep {W V : World} {S T : Nat → Prop} {x : VR} {X : VT} (h : HVt W S x X) (hs : W.heap.size ≤ V.heap.size) (hb : ∀ b, b < W.heap.size → S b → V.heap[b]? = W.heap[b]? ∧ T b) : HVt V T x X := by
 induction h with
 | mk n D G d xs ps hn hd hp hD hSD hG hSG hc hx h hm _ ih =>
  exact .mk n D G d xs ps hn hd hp (by omega) (hb D hD hSD).2 (by omega) (hb G hG hSG).2 ((hb D hD hSD).1.trans hc) hx (fun i hi => range_same (h i hi) (hb G hG hSG).1) (fun i h1 h2 => range_same (hm i h1 h2) (hb G hG hSG).1) ih
theorem vlg_le : ∀ (ps : List VT) (l : Int), vlg ps l ≤ l
 | [], l => by rw [vlg]; omega
 | .mk n d ps :: xs, l => by
  rw [vlg]
  by_cases h : 0 ≤ l
  ·rw [if_pos h]
   have h1 := vlg_le ps (l - 1 - ((d.length / 64 : Nat) : Int))
   have h2 := vlg_le xs (vlg ps (l - 1 - ((d.length / 64 : Nat) : Int)))
   omega
  ·rw [if_neg h]; omega
theorem vlf_le (X : VT) (l : Int) : vlf X l ≤ l - 1 - ((X.dat.length / 64 : Nat) : Int) := vlg_le _ _
theorem vlg_at : ∀ (ps : List VT) (l : Int) (i : Nat), 0 ≤ vlg ps l → i < ps.length → ∃ l', l' ≤ l ∧ 0 ≤ vlf (gvt ps i) l'
 | [], l, i, _, hi => by simp at hi
 | x :: xs, l, i, h, hi => by
  rw [vlg_cons] at h
  by_cases h0 : 0 ≤ l
  ·rw [if_pos h0] at h
   cases i with
   | zero => exact ⟨l, by omega, by have := vlg_le xs (vlf x l); show 0 ≤ vlf x l; omega⟩
   | succ i =>
    obtain ⟨l', h3, h4⟩ := vlg_at xs _ i h (by simpa using hi)
    have := vlf_le x l
    exact ⟨l', by omega, h4⟩
  ·rw [if_neg h0] at h; omega
theorem vlg_len : ∀ (ps : List VT) (l : Int), 0 ≤ vlg ps l → (ps.length : Int) ≤ l
 | [], l, h => by rw [vlg] at h; simpa using h
 | x :: xs, l, h => by
  rw [vlg_cons] at h
  by_cases h0 : 0 ≤ l
  ·rw [if_pos h0] at h
   have h1 := vlg_len xs _ h
   have h2 := vlf_le x l
   rw [List.length_cons]; omega
  ·rw [if_neg h0] at h; omega
theorem vlf_sz {X : VT} {l : Int} (h : 0 ≤ vlf X l) (hl : l ≤ 10000) : X.dat.length ≤ 640063 ∧ X.parts.length ≤ 10000 ∧ ∀ i, i < X.parts.length → ∃ l', l' ≤ 10000 ∧ 0 ≤ vlf (gvt X.parts i) l' := by
 have h1 := vlf_le X l
 have h2 := vlg_len X.parts _ h
 refine ⟨by omega, by omega, fun i hi => ?_⟩
 obtain ⟨l', h3, h4⟩ := vlg_at X.parts _ i h hi
 exact ⟨l', by omega, h4⟩
/-! The parts under way: rows that are laid, marks, rows that are still nothing. -/
def pvw (n : Nat) (xs : List VR) (k i : Nat) : List Value := if i < k then (if i < n then (vrv (gx xs i)).toList else pmk) else pzr
theorem pvw_len (n : Nat) (xs : List VR) (k i : Nat) : (pvw n xs k i).length = 3 := by
 unfold pvw
 split
 ·split <;> rfl
 ·rfl
def Pvw (W : World) (G n : Nat) (xs : List VR) (k : Nat) : Prop := ∃ cs, W.heap[G]? = some (.cells cs 27 (0, 0)) ∧ cs.size = (n + 3) * 3 ∧ ∀ i c, i < n + 3 → c < 3 → cs[i * 3 + c]? = (pvw n xs k i)[c]?
theorem Pvw.keep {W V : World} {G n : Nat} {xs : List VR} {k : Nat} (h : Pvw W G n xs k) (hb : V.heap[G]? = W.heap[G]?) : Pvw V G n xs k := by
 obtain ⟨cs, h1, h2⟩ := h
 exact ⟨cs, hb.trans h1, h2⟩
theorem Pvw.range {W : World} {G n : Nat} {xs : List VR} {k i : Nat} (h : Pvw W G n xs k) (hi : i < n + 3) : W.rangeAt G (i * 3) (pvw n xs k i) := by
 obtain ⟨cs, h1, h2, h3⟩ := h
 have hl := pvw_len n xs k i
 intro j v hv
 have hj := (List.getElem?_eq_some_iff.1 hv).1
 rw [cell_of_row _ _ _ _ _ _ h1, h3 i j hi (by omega)]
 exact hv
theorem infoV4 : ∃ i, Tryz.prog.info? 27 = some i ∧ i.zero = some (.agg #[.int .u64 0, .slice none 0 0, .slice none 0 0]) ∧ i.size = 3 ∧ i.bytes = 56 := ⟨_, rfl, rfl, rfl, rfl⟩
theorem make_vs (n : Nat) (hn : n ≤ 10003) (w : World) : ∃ cs, (Instr.makeSlice 25 (.int .i64 (n : Int)) (.int .i64 (n : Int))).run Tryz.prog w = .ok (.slice (some ⟨w.heap.size, 0, none⟩) n n) (w.alloc (.cells cs 27)) ∧ cs.size = n * 3 ∧ ∀ i c, i < n → c < 3 → cs[i * 3 + c]? = pzr[c]? := by
 obtain ⟨i0, hi, hz0, hz1, hz2⟩ := infoV4
 have h := run_make (P := Tryz.prog) w 25 27 i0 _ Tryz.underlying25 hi hz0 .i64 .i64 (n : Int) (n : Int) (by omega) (by omega) (by rw [hz2]; omega) (by omega)
 rw [hz1, Int.toNat_natCast] at h
 refine ⟨_, h, by simp [madeCells], fun i c h1 h2 => ?_⟩
 have h3 : i * 3 + c < n * 3 := by omega
 have h4 : (i * 3 + c) % 3 = c := by omega
 rcases (by omega : c = 0 ∨ c = 1 ∨ c = 2) with rfl | rfl | rfl
 ·rw [Nat.add_zero] at h3 h4 ⊢
  simp [madeCells, Value.cells, pzr, h3, h4]
 all_goals simp [madeCells, Value.cells, pzr, h3, h4]
theorem Pvw.mark {W : World} {G n : Nat} {xs : List VR} {k : Nat} (h : Pvw W G n xs k) (hk : n ≤ k) (hk3 : k < n + 3) : Pvw (W.setCell ⟨G, k * 3, none⟩ (.int .u64 4711)) G n xs (k + 1) := by
 obtain ⟨cs, h1, h2, h3⟩ := h
 refine ⟨_, heap_setCell_same W G (k * 3) cs _ _ h1, by simp [h2], fun i c hi hc => ?_⟩
 rw [Array.getElem?_setIfInBounds]
 by_cases e : k * 3 = i * 3 + c
 ·have e1 : i = k := by omega
  have e2 : c = 0 := by omega
  subst e1 e2
  rw [if_pos e, if_pos (by omega)]
  unfold pvw
  rw [if_pos (by omega), if_neg (by omega)]; rfl
 ·rw [if_neg e, h3 i c hi hc]
  by_cases e1 : i = k
  ·subst e1
   have c0 : c ≠ 0 := by omega
   unfold pvw
   rw [if_neg (by omega), if_pos (by omega), if_neg (by omega)]
   rcases (by omega : c = 1 ∨ c = 2) with rfl | rfl <;> rfl
  ·unfold pvw
   by_cases e2 : i < k
   ·rw [if_pos e2, if_pos (show i < k + 1 by omega)]
   ·rw [if_neg e2, if_neg (show ¬ i < k + 1 by omega)]
theorem Pvw.part {W V : World} {G n : Nat} {xs : List VR} {k : Nat} {y : VR} (h : Pvw W G n xs k) (hk : k < n) (hu : xs.length = k) (hV : V.heap[G]? = (W.setCell ⟨G, k * 3, none⟩ (.int .u64 4711)).heap[G]?) : Pvw (V.setCells G (k * 3) (vrv y).toList) G n (xs ++ [y]) (k + 1) := by
 obtain ⟨cs, h1, h2, h3⟩ := h
 have s1 := heap_setCell_same W G (k * 3) cs _ (.int .u64 4711) h1
 have s2 : (V.setCells G (k * 3) (vrv y).toList).heap[G]? = _ :=
  heap_setCell_same _ G (k * 3 + 1 + 1) _ _ (.slice y.pa y.pl y.pc) (heap_setCell_same _ G (k * 3 + 1) _ _ (.slice y.da y.dl y.dc) (heap_setCell_same V G (k * 3) _ _ (.int .u64 (y.num : Int)) (hV.trans s1)))
 refine ⟨_, s2, by simp [h2], fun i c hi hc => ?_⟩
 simp only [Array.getElem?_setIfInBounds, Array.size_setIfInBounds]
 by_cases e1 : i = k
 ·subst e1
  have e3 : pvw n (xs ++ [y]) (i + 1) i = (vrv y).toList := by
   unfold pvw
   rw [if_pos (by omega), if_pos hk, ← hu, gx_hi]
  rw [e3]
  have hb : i * 3 + c < cs.size := by omega
  rcases (by omega : c = 0 ∨ c = 1 ∨ c = 2) with rfl | rfl | rfl
  ·rw [if_neg (by omega), if_neg (by omega), if_pos (by omega), if_pos (by omega)]; rfl
  ·rw [if_neg (by omega), if_pos (by omega), if_pos (by omega)]; rfl
  ·rw [if_pos (by omega), if_pos (by omega)]; rfl
 ·rw [if_neg (by omega), if_neg (by omega), if_neg (by omega), if_neg (by omega), h3 i c hi hc]
  unfold pvw
  by_cases e2 : i < k
  ·rw [if_pos e2, if_pos (by omega), if_pos (by omega), if_pos (by omega), gx_lo (by omega)]
  ·rw [if_neg e2, if_neg (by omega)]
end Go.Proofs.YtejcggjmbjmoeaaGreatDoor

