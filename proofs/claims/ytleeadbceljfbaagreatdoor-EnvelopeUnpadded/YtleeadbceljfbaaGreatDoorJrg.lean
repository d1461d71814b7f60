import Derived.Test.YtleeadbceljfbaaGreatDoorJrf
import Derived.Test.YtleeadbceljfbaaGreatDoorJry
import Derived.OwnWalk
import Derived.Deep.Cut
import Derived.Deep.RegionHeld3
namespace Go.Proofs.YtleeadbceljfbaaGreatDoor
set_option maxRecDepth 100000
open Go Go.RowKit Go.Sort
attribute [local go_sem] setCell_drewN alloc_drewN
section
variable {P : Program}
/-- A part of a row, as it is read. -/
theorem run_load_part {o : Oper} {a : Act} {w : World} (ty : TypeId) (x : Operand) (ho : o.op = .load ty x) (g off : Nat) (hx : a.eval x = .pointer (some ⟨g, off, none⟩)) (t : TypeId) (cs : Array Value) (fr : Nat × Nat) (part : Array Value) (d : TypeDesc) (hg : w.heap[g]? = some (.cells cs t fr)) (hp : cs.extract off (off + part.size) = part)
    (hu : P.underlying ty = some d) (hd : d.isRow = true) (hi : (P.info? ty).map (·.size) = some part.size) : (execOp a.eval o).run P w = .ok (.value (.agg part)) w := by
  have hr := World.rangeAt_of_block hg off part.size
  rw [hp] at hr
  have hl := run_loadVar_mid (P := P) w g off ty part.toList d hr hu hd (by simpa using hi)
  unfold execOp
  simp only [ho, hx, Instr.loadAt, Instr.sureAddr, Sem.run_bind, Sem.run_pure, Result.andThen_ok, hl]
end
section
variable {P : Program} {ops : Array Oper} {Q : Exit → Act → World → Prop} {md : Region.Mode} {S : World → Prop}
/-- Either of two operations may come up. -/
theorem wpAnyH_two {j k : Nat} {oj ok : Oper} {fuel : Nat} {listed : Array Bool} {a : Act} {w : World} (hr : Region.ready md ops listed = [j, k]) (hj : ops[j]? = some oj) (hk : ops[k]? = some ok) (wj : Region.wanted oj (yielded ops a.tmps) = true) (wk : Region.wanted ok (yielded ops a.tmps) = true)
    (h1 : ∀ K : Act → World → Prop, (∀ a' w', S w' → wpAnyH P md ops Q S fuel (listed.setIfInBounds j true) a' w' → K a' w') → oj.wp P a w K Q)
    (h2 : ∀ K : Act → World → Prop, (∀ a' w', S w' → wpAnyH P md ops Q S fuel (listed.setIfInBounds k true) a' w' → K a' w') → ok.wp P a w K Q) : wpAnyH P md ops Q S (fuel + 1) listed a w := by
  refine wpAnyH_all hr (by simp) (fun i hi' => ?_)
  obtain rfl | rfl : i = j ∨ i = k := by simpa using hi'
  · unfold wpOp
    simp only [hj, wj, if_true]
    exact .inl (h1 _ (fun a' w' hS hn => ⟨hS, hn⟩))
  · unfold wpOp
    simp only [hk, wk, if_true]
    exact .inl (h2 _ (fun a' w' hS hn => ⟨hS, hn⟩))
end
theorem slice_ko (g o : Nat) (W : World) : (Instr.sliceAt 34 (.pointer (some ⟨g, o, none⟩)) none none none).run Tryz.prog W = .ok (.slice (some ⟨g, o, none⟩) 32 32) W := by kernel_rfl
theorem all_rowB (cs : Array Value) : cs.extract 0 (0 + cs.size) = cs := by simp
/-- The fields of a bundle. -/
def bfs (i s o : List B) (h : Bool) : List Fd := [⟨1, 2, 0, i⟩, ⟨2, 2, 0, s⟩, ⟨3, 0, if h then 1 else 0, []⟩, ⟨4, 2, 0, o⟩]
def bxs (g g1 fl : Nat) : List VR := [⟨0, some ⟨g, 0, none⟩, 32, 32, none, 0, 0⟩, ⟨0, some ⟨g, 32, none⟩, 32, 32, none, 0, 0⟩, ⟨fl, none, 0, 0, none, 0, 0⟩, ⟨0, some ⟨g1, 0, none⟩, 32, 32, none, 0, 0⟩]
theorem bxs_fdk (g g1 : Nat) (i s o : List B) (h : Bool) : fdk bsl (bxs g g1 (if h then 1 else 0)) [i, s, [], o] 4 = bfs i s o h := rfl
theorem bsl_prt {W : World} {g g1 gp fl : Nat} (hfl : fl < 2) (h : Bx W gp #[.int .u64 0, .slice (some ⟨g, 0, none⟩) 32 32, .slice none 0 0, .int .u64 0, .slice (some ⟨g, 32, none⟩) 32 32, .slice none 0 0, .int .u64 (fl : Int), .slice none 0 0, .slice none 0 0, .int .u64 0, .slice (some ⟨g1, 0, none⟩) 32 32, .slice none 0 0]) : Prt W (.slice (some ⟨gp, 0, none⟩) 4 4) (bxs g g1 fl) := by
  have hlt := h.lt
  obtain ⟨T, h⟩ := h
  refine ⟨some ⟨gp, 0, none⟩, 4, rfl, by show 4 ≤ 4; decide, fun i hi => ?_, fun i hi => ⟨gp, 0, rfl, hlt, fun j v hv => ?_⟩⟩
  · have hi4 : i < 4 := hi
    rcases (by omega : i = 0 ∨ i = 1 ∨ i = 2 ∨ i = 3) with rfl | rfl | rfl | rfl
    · exact ⟨by show 0 < _; decide, by show 32 < _; decide⟩
    · exact ⟨by show 0 < _; decide, by show 32 < _; decide⟩
    · exact ⟨by show fl < _; omega, by show 0 < _; decide⟩
    · exact ⟨by show 0 < _; decide, by show 32 < _; decide⟩
  · have hi4 : i < 4 := hi
    rw [cell_of_row _ _ _ _ _ _ h]
    have hj : j < 3 := by have := (List.getElem?_eq_some_iff.1 hv).1; simpa [vrv, vrw] using this
    rcases (by omega : i = 0 ∨ i = 1 ∨ i = 2 ∨ i = 3) with rfl | rfl | rfl | rfl <;> rcases (by omega : j = 0 ∨ j = 1 ∨ j = 2) with rfl | rfl | rfl <;> exact hv
theorem bsl_ck (g g1 fl : Nat) (hfl : fl < 2) : ckF bsl 0 0 (bxs g g1 fl) 1 = none := by
  rcases (by omega : fl = 0 ∨ fl = 1) with rfl | rfl <;> rfl
/-- Bytes in the midst of a row. -/
theorem mid_bys {W : World} {g off : Nat} {cs : Array Value} {t : TypeId} {fr : Nat × Nat} {l : List B} (hg : W.heap[g]? = some (.cells cs t fr)) (hl : l.length = 32) (he : cs.extract off (off + (irow .u8 (bl l)).size) = irow .u8 (bl l)) : BysB W (.slice (some ⟨g, off, none⟩) 32 32) l := by
  refine ⟨⟨some ⟨g, off, none⟩, 32, ?_, ?_, fun j hj => ?_, bl_bnd _⟩, ?_, fun a l c e1 e2 => ?_⟩
  · rw [bl_len, hl]
  · rw [bl_len, hl]; decide
  · refine ⟨g, off, rfl, lt_of_row hg, ?_⟩
    rw [cell_of_row _ _ _ _ _ _ hg]
    have e := congrArg (fun c : Array Value => c[j]?) he
    simp only [irow_size] at e
    rw [Array.getElem?_extract] at e
    have hk : (irow .u8 (bl l))[j]? = some (.int .u8 ((bl l).getD j 0)) := by simp [irow, List.getD_eq_getElem?_getD, List.getElem?_eq_getElem hj]
    rw [hk] at e
    split at e
    · exact e
    · cases e
  · rw [hl]; decide
  · cases e1; cases e2
def z32 : List B := List.replicate 32 0#8
theorem z32_len : z32.length = 32 := rfl
theorem z32_zr : irow .u8 (zr 32) = irow .u8 (bl z32) := by rw [show zr 32 = bl z32 by decide]
/-- The key for once that is told. -/
def onc (h : Bool) (o : List B) : List B := match h with
  | true => o
  | false => z32
end Go.Proofs.YtleeadbceljfbaaGreatDoor
