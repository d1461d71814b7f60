import Derived.Test.YtkickbgiidhpfaaDoorProg
import Derived.WalkKit
import Derived.WalkSpells
import Derived.WalkLawsBesides
import Derived.Lib.QuietBelow
import Derived.BigQuiet
import Derived.Lib.SlBytesConst
import Derived.OrdersHeld
import Derived.Deep.RegionHeld3
import Derived.Test.YtkickbgiidhpfaaDoorKa
import Derived.Test.YtkickbgiidhpfaaDoorCqa
namespace Go.Proofs.YtkickbgiidhpfaaDoor
open Go Go.RowKit Go.Sort
attribute [local go_sem] setCell_drewN alloc_drewN

/-- Bytes of a constant, turned to bytes. -/
theorem wp_convert {P : Program} {o : Oper} {a : Act} {w : World} {K : Act → World → Prop} {Q : Exit → Act → World → Prop} (t u : TypeId) (x : Operand) (ho : o.op = .convert t u x) (v v' : Value) (w' : World) (hx : a.eval x = v) (hr : (convert t u v).run P w = .ok v' w') (h : K (a.put o.dst v') w') : o.wp P a w K Q := by
  unfold Oper.wp
  simp [execOp, ho, hx, hr, Result.andThen]
  exact h
def rtn : List Int := [112, 97, 119, 108, 32, 114, 111, 111, 116]
def msn : List Int := [112, 97, 119, 108, 32, 109, 101, 115, 115, 97, 103, 101]
theorem rtn_bd : ∀ z ∈ rtn, 0 ≤ z ∧ z < 256 := by decide
theorem msn_bd : ∀ z ∈ msn, 0 ≤ z ∧ z < 256 := by decide
theorem rtn_bys (W : World) : Bys (W.alloc (.cells #[.int .u8 112, .int .u8 97, .int .u8 119, .int .u8 108, .int .u8 32, .int .u8 114, .int .u8 111, .int .u8 111, .int .u8 116] 5 (9, 10))) (.slice (some ⟨W.heap.size, 0, none⟩) 9 9) rtn := bys_rowF (l := rtn) (hp1_0 W _) (by decide) rtn_bd rfl
theorem msn_bys (W : World) : Bys (W.alloc (.cells #[.int .u8 112, .int .u8 97, .int .u8 119, .int .u8 108, .int .u8 32, .int .u8 109, .int .u8 101, .int .u8 115, .int .u8 115, .int .u8 97, .int .u8 103, .int .u8 101] 5 (12, 13))) (.slice (some ⟨W.heap.size, 0, none⟩) 12 12) msn := bys_rowF (l := msn) (hp1_0 W _) (by decide) msn_bd rfl
/-- Root's 96 bytes, Message's 48. -/
def rts (r s : List Int) : List Int := xpd (hm r s) rtn 96
def mss (k : List Int) : List Int := xpd k msn 48
theorem rts_len (r s : List Int) : (rts r s).length = 96 := xpd_len _ _ _
theorem mss_len (k : List Int) : (mss k).length = 48 := xpd_len _ _ _
theorem rts_bd (r s : List Int) : ∀ z ∈ rts r s, 0 ≤ z ∧ z < 256 := xpd_bd _ _ _
theorem mss_bd (k : List Int) : ∀ z ∈ mss k, 0 ≤ z ∧ z < 256 := xpd_bd _ _ _
/-- So many bytes from a place on. -/
def pt (l : List Int) (o n : Nat) : List Int := (l.drop o).take n
theorem pt_len (l : List Int) (o n : Nat) (h : o + n ≤ l.length) : (pt l o n).length = n := by simp [pt]; omega
theorem pt_bd {l : List Int} (h : ∀ z ∈ l, 0 ≤ z ∧ z < 256) (o n : Nat) : ∀ z ∈ pt l o n, 0 ≤ z ∧ z < 256 := fun z hz => h z (List.mem_of_mem_drop (List.mem_of_mem_take hz))
theorem pt_ext (l : List Int) (o n : Nat) (k : IntKind) (h : o + n ≤ l.length) : (irow k l).extract o (o + (irow k (pt l o n)).size) = irow k (pt l o n) := by
  have hs : (irow k (pt l o n)).size = n := by rw [irow_size, pt_len l o n h]
  rw [hs]
  apply Array.ext'
  simp [irow, pt, List.map_take, List.map_drop, List.extract_eq_take_drop]
theorem pt_get (l : List Int) (o n i : Nat) (h : i < n) : (pt l o n).getD i 0 = l.getD (o + i) 0 := by
  simp only [pt, List.getD_eq_getElem?_getD, List.getElem?_take_of_lt h, List.getElem?_drop]
theorem fit16 (a b : List Int) (ha : a.length = 16) (hb : b.length = 16) : (irow .u8 a).size = (irow .u8 b).size := by rw [irow_size, irow_size, ha, hb]
/-- Three results that lie in rows; two of two kinds. -/
theorem results_cell3_row {P : Program} {fn : Func} {p q r : Tmp} {ty : TypeId} (h : fn.results = #[.cell p ty, .cell q ty, .cell r ty]) (tmps : Array Value) (w : World) (g k m : Nat) (t u x : TypeId) (cs ds es : Array Value) (fr gr er : Nat × Nat) (d : TypeDesc)
    (hp : tmps.getD p undef = .pointer (some ⟨g, 0, none⟩)) (hq : tmps.getD q undef = .pointer (some ⟨k, 0, none⟩)) (hr : tmps.getD r undef = .pointer (some ⟨m, 0, none⟩)) (hg : w.heap[g]? = some (.cells cs t fr)) (hk : w.heap[k]? = some (.cells ds u gr)) (hm : w.heap[m]? = some (.cells es x er))
    (hu : P.underlying ty = some d) (hd : (match d with | .struct _ | .array _ _ => true | _ => false) = true) (hi : (P.info? ty).map (·.size) = some cs.size) (hj : (P.info? ty).map (·.size) = some ds.size) (hl : (P.info? ty).map (·.size) = some es.size) :
    (results fn tmps).run P w = .ok (.tuple #[.agg cs, .agg ds, .agg es]) w := by
  have hp' : tmps[p]?.getD undef = .pointer (some ⟨g, 0, none⟩) := by simpa using hp
  have hq' : tmps[q]?.getD undef = .pointer (some ⟨k, 0, none⟩) := by simpa using hq
  have hr' : tmps[r]?.getD undef = .pointer (some ⟨m, 0, none⟩) := by simpa using hr
  simp [results, h, hp', hq', hr', asAddr, run_loadVar_row w g t ty cs fr d hg hu hd hi, run_loadVar_row w k u ty ds gr d hk hu hd hj, run_loadVar_row w m x ty es er d hm hu hd hl]
theorem results_cell_cell {P : Program} {fn : Func} {p q : Tmp} {ty tz : TypeId} (h : fn.results = #[.cell p ty, .cell q tz]) (tmps : Array Value) (w : World) (g k : Nat) (t u : TypeId) (cs ds : Array Value) (fr gr : Nat × Nat) (d d2 : TypeDesc)
    (hp : tmps.getD p undef = .pointer (some ⟨g, 0, none⟩)) (hq : tmps.getD q undef = .pointer (some ⟨k, 0, none⟩)) (hg : w.heap[g]? = some (.cells cs t fr)) (hk : w.heap[k]? = some (.cells ds u gr))
    (hu : P.underlying ty = some d) (hd : (match d with | .struct _ | .array _ _ => true | _ => false) = true) (hu2 : P.underlying tz = some d2) (hd2 : (match d2 with | .struct _ | .array _ _ => true | _ => false) = true) (hi : (P.info? ty).map (·.size) = some cs.size) (hj : (P.info? tz).map (·.size) = some ds.size) :
    (results fn tmps).run P w = .ok (.tuple #[.agg cs, .agg ds]) w := by
  have hp' : tmps[p]?.getD undef = .pointer (some ⟨g, 0, none⟩) := by simpa using hp
  have hq' : tmps[q]?.getD undef = .pointer (some ⟨k, 0, none⟩) := by simpa using hq
  simp [results, h, hp', hq', asAddr, run_loadVar_row w g t ty cs fr d hg hu hd hi, run_loadVar_row w k u tz ds gr d2 hk hu2 hd2 hj]
theorem sl_0 (g : Nat) (W : World) : (Instr.sliceAt 54 (.slice (some ⟨g, 0, none⟩) 96 96) none (some (.int .i64 32)) none).run Tryd.prog W = .ok (.slice (some ⟨g, 0, none⟩) 32 96) W := by kernel_rfl
theorem sl_1 (g : Nat) (W : World) : (Instr.sliceAt 54 (.slice (some ⟨g, 0, none⟩) 96 96) (some (.int .i64 32)) (some (.int .i64 64)) none).run Tryd.prog W = .ok (.slice (some ⟨g, 32, none⟩) 32 64) W := by kernel_rfl
theorem sl_2 (g : Nat) (W : World) : (Instr.sliceAt 54 (.slice (some ⟨g, 0, none⟩) 96 96) (some (.int .i64 64)) none none).run Tryd.prog W = .ok (.slice (some ⟨g, 64, none⟩) 32 32) W := by kernel_rfl
theorem sm_0 (g : Nat) (W : World) : (Instr.sliceAt 54 (.slice (some ⟨g, 0, none⟩) 48 48) none (some (.int .i64 32)) none).run Tryd.prog W = .ok (.slice (some ⟨g, 0, none⟩) 32 48) W := by kernel_rfl
theorem sm_1 (g : Nat) (W : World) : (Instr.sliceAt 54 (.slice (some ⟨g, 0, none⟩) 48 48) (some (.int .i64 32)) none none).run Tryd.prog W = .ok (.slice (some ⟨g, 32, none⟩) 16 16) W := by kernel_rfl
end Go.Proofs.YtkickbgiidhpfaaDoor
