import Derived.Test.YtleeadbceljfbaaGreatDoorJrg
import Derived.Test.YtleeadbceljfbaaGreatDoorJre
import Derived.OwnWalk
import Derived.Deep.Cut
import Derived.Deep.RegionHeld3
namespace Go.Proofs.YtleeadbceljfbaaGreatDoor
set_option maxRecDepth 100000
open Go Go.RowKit Go.Sort
attribute [local go_sem] setCell_drewN alloc_drewN
section
variable {P : Program}
theorem run_build_op {o : Oper} {a : Act} {w : World} (t : TypeId) (parts : Array (Nat × Operand)) (ho : o.op = .build t parts) (vals : List (Nat × Value)) (hv : parts.toList.map (fun (i, x) => (i, a.eval x)) = vals) (cells : Array Value) (hb : P.built t vals = some cells) : (execOp a.eval o).run P w = .ok (.value (.agg cells)) w := by
  rw [← Array.toList_map] at hv
  subst hv
  unfold execOp
  simp only [ho, Sem.run_bind, Sem.run_pure, run_build w t _ cells hb, Result.andThen_ok]
end
theorem arr_k (g o c : Nat) (W : World) : (Instr.arrayAt 34 (.slice (some ⟨g, o, none⟩) 32 c)).run Tryz.prog W = .ok (.pointer (some ⟨g, o, none⟩)) W := by kernel_rfl
theorem dcF_cons {t : Slt} {ts : List Slt} {f : Fd} {fs : List Fd} {at_ : Int} (h : dcF (t :: ts) (f :: fs) at_ = none) : dsl t f at_ = none ∧ dcF ts fs (at_ + ((fby f).length : Int)) = none := by
  rw [dcF] at h
  cases hd : dsl t f at_ with
  | none => rw [hd] at h; exact ⟨rfl, h⟩
  | some x => rw [hd] at h; cases h
theorem dsl_none {t : Slt} {f : Fd} {at_ : Int} (h : dsl t f at_ = none) : f.no = t.no ∧ f.ty = wtK t ∧ ftF t f = 0 := by
  unfold dsl at h
  by_cases h1 : f.no = t.no
  · rw [if_neg (by simpa using h1)] at h
    by_cases h2 : f.ty = wtK t
    · rw [if_neg (by simpa using h2)] at h
      unfold rdE at h
      by_cases h3 : ftF t f = 0
      · exact ⟨h1, h2, h3⟩
      · rw [if_neg h3] at h; cases h
    · rw [if_pos h2] at h; cases h
  · rw [if_pos h1] at h; cases h
theorem wth_zero {n l m : Int} (h : wth n l m = 0) : l ≤ n ∧ n ≤ m := by
  unfold wth at h
  split at h
  · cases h
  · omega
theorem key_field {no : Int} {f : Fd} {at_ : Int} (h : dsl (.mk no 5 32 32 []) f at_ = none) (hf : fits f) : ∃ l : List B, f = ⟨no, 2, 0, l⟩ ∧ l.length = 32 := by
  obtain ⟨h1, h2, h3⟩ := dsl_none h
  obtain ⟨fno, fty, fnum, fdat⟩ := f
  have e1 : fno = no := h1
  have e2 : fty = 2 := h2
  subst e1 e2
  have e3 := wth_zero (show wth (fdat.length : Int) 32 32 = 0 from h3)
  have e4 : fnum = 0 := by
    unfold fits at hf
    simpa using hf
  subst e4
  exact ⟨fdat, rfl, by omega⟩
theorem flag_field {no : Int} {f : Fd} {at_ : Int} (h : dsl (.mk no 4 0 0 []) f at_ = none) (hf : fits f) : ∃ n : Nat, f = ⟨no, 0, n, []⟩ ∧ n < 2 := by
  obtain ⟨h1, h2, h3⟩ := dsl_none h
  obtain ⟨fno, fty, fnum, fdat⟩ := f
  have e1 : fno = no := h1
  have e2 : fty = 0 := h2
  subst e1 e2
  have e3 := wth_zero (show wth (fnum : Int) 0 1 = 0 from h3)
  have e4 : fdat = [] := by
    unfold fits at hf
    simp at hf
    exact hf
  subst e4
  exact ⟨fnum, rfl, by omega⟩
/-- Bytes that the bundle's schema takes. -/
theorem dec_bsl {d : List B} (h : dec8 bsl d 0 = none) : der (dwh d) = 0 ∧ ∃ (i s o : List B) (fl : Nat), dfs (dwh d) = [⟨1, 2, 0, i⟩, ⟨2, 2, 0, s⟩, ⟨3, 0, fl, []⟩, ⟨4, 2, 0, o⟩] ∧ i.length = 32 ∧ s.length = 32 ∧ o.length = 32 ∧ fl < 2 := by
  unfold dec8 at h
  by_cases hd : der (dwh d) = 0
  · rw [if_neg (by simpa using hd)] at h
    have hft : ∀ f ∈ dfs (dwh d), fits f := fun f hf => (ech_all _ 0 (by decide) (eer_ok.1 (dec_enc hd).1).2.1 f hf).2.2.2
    refine ⟨hd, ?_⟩
    generalize dfs (dwh d) = fs at *
    unfold bsl at h
    match fs, h, hft with
    | [], h, _ => cases h
    | [f1], h, _ => cases (dcF_cons h).2
    | [f1, f2], h, _ => cases (dcF_cons (dcF_cons h).2).2
    | [f1, f2, f3], h, _ => cases (dcF_cons (dcF_cons (dcF_cons h).2).2).2
    | f1 :: f2 :: f3 :: f4 :: f5 :: r, h, _ => cases (dcF_cons (dcF_cons (dcF_cons (dcF_cons h).2).2).2).2
    | [f1, f2, f3, f4], h, hft =>
      obtain ⟨a1, h⟩ := dcF_cons h
      obtain ⟨a2, h⟩ := dcF_cons h
      obtain ⟨a3, h⟩ := dcF_cons h
      obtain ⟨a4, h⟩ := dcF_cons h
      obtain ⟨i, rfl, li⟩ := key_field a1 (hft _ (by simp))
      obtain ⟨s, rfl, ls⟩ := key_field a2 (hft _ (by simp))
      obtain ⟨n, rfl, ln⟩ := flag_field a3 (hft _ (by simp))
      obtain ⟨o, rfl, lo⟩ := key_field a4 (hft _ (by simp))
      exact ⟨i, s, o, n, rfl, li, ls, lo, ln⟩
  · rw [if_pos hd] at h; cases h
/-- Bytes of one's own, as they lie. -/
theorem own_range {W : World} {b : Nat} {v : Value} {d : List B} (h : Own W b v d) (hp : 0 < d.length) : ∃ g c, v = .slice (some ⟨g, 0, none⟩) d.length c ∧ d.length ≤ c ∧ b ≤ g ∧ g < W.heap.size ∧ W.rangeAt g 0 ((bl d).map (Value.int .u8)) := by
  have h' := h
  obtain ⟨_, ⟨rfl, h0⟩ | ⟨g, cap, cur, rfl, hb, hg, hn, hm, hs, ht⟩⟩ := h'
  · omega
  · refine ⟨g, cap, rfl, hn, hb, lt_of_row hg, fun j x hx => ?_⟩
    have := World.ownsRow.cells h (g := g) rfl j x hx
    rw [addr_add] at this
    exact this
/-- What Parse finds wrong, and what it answers. -/
def par14 (d : List B) : Option Flt3 := match dec8 bsl d 0 with
  | some x => some x
  | none => if (gf (dfs (dwh d)) 2).num = 1 ∨ (gf (dfs (dwh d)) 3).dat = z32 then none else some ⟨0, 70, 140⟩
def pbn (d : List B) : Array Value := brow (bl (gf (dfs (dwh d)) 0).dat) (bl (gf (dfs (dwh d)) 1).dat) (bl (gf (dfs (dwh d)) 3).dat) (decide ((gf (dfs (dwh d)) 2).num = 1))
def PrR (base : Nat) (d : List B) (e : Ending) (w' : World) : Prop := match par14 d with
  | none => e = .returned (.tuple #[.agg (pbn d), .nilIface])
  | some x => ∃ g, e = .returned (.tuple #[.agg (brow (zr 32) (zr 32) (zr 32) false), .iface 83 (.pointer (some ⟨g, 0, none⟩))]) ∧ base ≤ g ∧ w'.heap[g]? = some (.cells (frw x) 65 (0, 0))
theorem own_rangeR {W : World} {b : Nat} {e : TypeId} {sz : Nat} {v : Value} {n : Nat} {xs : List Value} (h : W.ownsRow b e sz v n xs) (hp : 0 < n) : ∃ g c, v = .slice (some ⟨g, 0, none⟩) n c ∧ b ≤ g ∧ g < W.heap.size ∧ W.rangeAt g 0 xs := by
  have h' := h
  obtain ⟨_, ⟨rfl, h0⟩ | ⟨g, cap, cur, rfl, hb, hg, hn, hm, hs, ht⟩⟩ := h'
  · omega
  · refine ⟨g, cap, rfl, hb, lt_of_row hg, fun j x hx => ?_⟩
    have := World.ownsRow.cells h (g := g) rfl j x hx
    rw [addr_add] at this
    exact this
theorem mv_range {W V : World} {b o : Nat} {cs : List Value} (h : W.rangeAt b o cs) (hb : V.heap[b]? = W.heap[b]?) : V.rangeAt b o cs := fun j v hv => (World.cell?_of_block hb).trans (h j v hv)
theorem zr_bl {l : List B} : bl l = zr 32 ↔ l = z32 := by
  rw [show zr 32 = bl z32 by decide]
  exact ⟨fun h => bl_inj h, fun h => by rw [h]⟩
end Go.Proofs.YtleeadbceljfbaaGreatDoor
