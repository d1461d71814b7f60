import Derived.Test.YtebgdenfaiinmaaSpa
import Derived.OrdersHeld
import Derived.Deep.RegionHeld3
namespace Go.Proofs.Ytebgdenfaiinmaa
open Go Go.RowKit Go.Sort Go.ChangeMaps Go.MapKept

/-! A spare, a label: their cells. -/
structure Sr where
  h : List Int
  n : Int
  m : List Int
deriving DecidableEq
def Sr.ok (s : Sr) : Prop := s.h.length = 32 ∧ s.m.length = 32
abbrev Lb := List Int × Int
def Sr.lb (s : Sr) : Lb := (s.h, s.n)
/-- A label's cells. -/
def chc (key : List Int) (n : Int) : Array Value := ((key.map (Value.int .u8)) ++ [Value.int .u32 n]).toArray
/-- A spare's cells. -/
def srl (s : Sr) : List Value := s.h.map (Value.int .u8) ++ Value.int .u32 s.n :: s.m.map (Value.int .u8)
def srow (s : Sr) : Array Value := (srl s).toArray
def lenc (x : Lb) : Value := .agg (chc x.1 x.2)
def lok (x : Lb) : Prop := x.1.length = 32
def kenc (x : List Int) : Value := .agg (irow .u8 x)
def kok (x : List Int) : Prop := x.length = 32
theorem len32 (l : List Int) (h : l.length = 32) : ∃ x0 x1 x2 x3 x4 x5 x6 x7 x8 x9 x10 x11 x12 x13 x14 x15 x16 x17 x18 x19 x20 x21 x22 x23 x24 x25 x26 x27 x28 x29 x30 x31, l = [x0, x1, x2, x3, x4, x5, x6, x7, x8, x9, x10, x11, x12, x13, x14, x15, x16, x17, x18, x19, x20, x21, x22, x23, x24, x25, x26, x27, x28, x29, x30, x31] := by
  match l, h with
  | [x0, x1, x2, x3, x4, x5, x6, x7, x8, x9, x10, x11, x12, x13, x14, x15, x16, x17, x18, x19, x20, x21, x22, x23, x24, x25, x26, x27, x28, x29, x30, x31], _ => exact ⟨x0, x1, x2, x3, x4, x5, x6, x7, x8, x9, x10, x11, x12, x13, x14, x15, x16, x17, x18, x19, x20, x21, x22, x23, x24, x25, x26, x27, x28, x29, x30, x31, rfl⟩
theorem chc_size (key : List Int) (hkl : key.length = 32) (n : Int) : (chc key n).size = 33 := by simp [chc, hkl]
theorem chc_one (key : List Int) (n : Int) : (chc key n).all (·.oneCell') = true := by
  simp [chc, Value.oneCell']
theorem chc_key (key : List Int) (hkl : key.length = 32) (n : Int) : (chc key n).extract 0 (0 + (irow .u8 key).size) = irow .u8 key := by
  apply Array.ext'
  simp [chc, irow, hkl]
theorem chc_n (key : List Int) (hkl : key.length = 32) (n : Int) : (chc key n)[32]? = some (.int .u32 n) := by
  simp [chc, hkl]
theorem srl_len {s : Sr} (h : s.ok) : (srl s).length = 65 := by simp [srl, h.1, h.2]
theorem srow_size {s : Sr} (h : s.ok) : (srow s).size = 65 := by simp [srow, srl_len h]
theorem srl_one (s : Sr) : ∀ u ∈ srl s, u.oneCell' = true := by
  intro u hu
  simp only [srl, List.mem_append, List.mem_cons, List.mem_map] at hu
  rcases hu with ⟨z, _, rfl⟩ | rfl | ⟨z, _, rfl⟩ <;> rfl
theorem srow_one (s : Sr) : (srow s).all (·.oneCell') = true := by
  rw [srow, List.all_toArray, List.all_eq_true]
  exact srl_one s
theorem srow_h {s : Sr} (h : s.ok) : (srow s).extract 0 (0 + (irow .u8 s.h).size) = irow .u8 s.h := by
  apply Array.ext'
  simp [srow, srl, irow, h.1]
theorem srow_n {s : Sr} (h : s.ok) : (srow s)[32]? = some (.int .u32 s.n) := by
  simp [srow, srl, h.1]
theorem srow_m {s : Sr} (h : s.ok) : (srow s).extract 33 (33 + (irow .u8 s.m).size) = irow .u8 s.m := by
  apply Array.ext'
  have e : srl s = (s.h.map (Value.int .u8) ++ [Value.int .u32 s.n]) ++ s.m.map (Value.int .u8) := by simp [srl]
  have e2 : (s.h.map (Value.int .u8) ++ [Value.int .u32 s.n]).length = 33 := by simp [h.1]
  simp only [srow, e, Array.toList_extract, irow, List.size_toArray, List.length_map]
  rw [← e2, List.extract_eq_take_drop, List.drop_left]
  simp
  exact List.take_of_length_le (by simp)
theorem infok8 (key : List Int) (hkl : key.length = 32) : (Try.prog.info? 40).map (·.size) = some (irow .u8 key).size := by
  rw [irow_size, hkl]; kernel_rfl
theorem fit32 (a b : List Int) (ha : a.length = 32) (hb : b.length = 32) : (irow .u8 a).size = (irow .u8 b).size := by rw [irow_size, irow_size, ha, hb]
theorem infoL (key : List Int) (hkl : key.length = 32) (n : Int) : (Try.prog.info? 86).map (·.size) = some (chc key n).size := by
  rw [chc_size key hkl]; kernel_rfl
theorem infoS {s : Sr} (h : s.ok) : (Try.prog.info? 60).map (·.size) = some (srow s).size := by
  rw [srow_size h]; kernel_rfl
theorem infoSl {s : Sr} (h : s.ok) : (Try.prog.info? 60).map (·.size) = some (srl s).length := by
  rw [srl_len h]; kernel_rfl
theorem builtL (key : List Int) (hkl : key.length = 32) (n : Int) : Try.prog.built 86 [(0, .agg (irow .u8 key)), (1, .int .u32 n)] = some (chc key n) := by
  obtain ⟨x0, x1, x2, x3, x4, x5, x6, x7, x8, x9, x10, x11, x12, x13, x14, x15, x16, x17, x18, x19, x20, x21, x22, x23, x24, x25, x26, x27, x28, x29, x30, x31, rfl⟩ := len32 key hkl
  kernel_rfl
theorem builtS (s : Sr) (h : s.ok) : Try.prog.built 60 [(0, .agg (irow .u8 s.h)), (1, .int .u32 s.n), (2, .agg (irow .u8 s.m))] = some (srow s) := by
  obtain ⟨sh, sn, sm⟩ := s
  obtain ⟨h1, h2⟩ := h
  dsimp only at h1 h2
  obtain ⟨x0, x1, x2, x3, x4, x5, x6, x7, x8, x9, x10, x11, x12, x13, x14, x15, x16, x17, x18, x19, x20, x21, x22, x23, x24, x25, x26, x27, x28, x29, x30, x31, rfl⟩ := len32 sh h1
  obtain ⟨y0, y1, y2, y3, y4, y5, y6, y7, y8, y9, y10, y11, y12, y13, y14, y15, y16, y17, y18, y19, y20, y21, y22, y23, y24, y25, y26, y27, y28, y29, y30, y31, rfl⟩ := len32 sm h2
  kernel_rfl
def zsr : Sr := ⟨zr 32, 0, zr 32⟩
theorem zsr_ok : zsr.ok := ⟨rfl, rfl⟩
theorem zlb (W : World) : (Instr.alloc 86 true (.tuple #[])).run Try.prog W = .ok (.pointer (some ⟨W.heap.size, 0, none⟩)) (W.alloc (.cells (chc (zr 32) 0) 86)) := by kernel_rfl
theorem zsp (W : World) : (Instr.alloc 60 true (.tuple #[])).run Try.prog W = .ok (.pointer (some ⟨W.heap.size, 0, none⟩)) (W.alloc (.cells (srow zsr) 60)) := by kernel_rfl
theorem bLb (cs : Array Value) (W : World) : (Instr.box 86 (.agg cs)).run Try.prog W = .ok (.pointer (some ⟨W.heap.size, 0, none⟩)) (W.alloc (.cells cs 86)) := by kernel_rfl
theorem bSp (cs : Array Value) (W : World) : (Instr.box 60 (.agg cs)).run Try.prog W = .ok (.pointer (some ⟨W.heap.size, 0, none⟩)) (W.alloc (.cells cs 60)) := by kernel_rfl
theorem bKy (cs : Array Value) (W : World) : (Instr.box 40 (.agg cs)).run Try.prog W = .ok (.pointer (some ⟨W.heap.size, 0, none⟩)) (W.alloc (.cells cs 40)) := by kernel_rfl
theorem Try.infoU8 : ∃ i, Try.prog.info? 5 = some i := by
  cases h : Try.prog.info? 5 with
  | some i => exact ⟨i, rfl⟩
  | none => exact absurd (show (Try.prog.info? 5).isSome = true by kernel_rfl) (by rw [h]; decide)
theorem Try.cellsU8 : Try.prog.cellsOf 5 = 1 := by kernel_rfl
/-! Equality. -/
theorem eq_key (d : Nat) (x y : List Int) (hx : x.length = 32) (hy : y.length = 32) (W : World) : (Op.equalIn (d + 2) 40 (.agg (irow .u8 x)) (.agg (irow .u8 y))).run Try.prog W = .ok (decide (x = y)) W := by
  obtain ⟨i0, hi⟩ := Try.infoU8
  unfold irow
  rw [run_equalIn_array W (d + 1) _ _ Try.underlying40 hi, Try.cellsU8, run_eqItems_int d W Try.underlying5 hi x y (List.range 32) (fun i h => by simp at h; omega)]
  congr 1
  rw [Bool.eq_iff_iff]
  simp only [List.all_eq_true, List.mem_range, beq_iff_eq, decide_eq_true_eq]
  constructor
  · intro h
    apply List.ext_getElem (by omega)
    intro i h1 h2
    have := h i (by omega)
    simpa [h1, h2] using this
  · rintro rfl i _
    rfl
theorem part_key {cs : Array Value} {x : List Int} {o : Nat} (hx : x.length = 32) (h : cs.extract o (o + (irow .u8 x).size) = irow .u8 x) (W : World) : (part 40 cs o).run Try.prog W = .ok (.agg (irow .u8 x)) W := by
  have ha : (isAgg 40).run Try.prog W = .ok true W := by
    unfold isAgg
    rw [Sem.run_bind, run_underlying Try.underlying40 W]
    rfl
  rw [irow_size, hx] at h
  simp [part, Sem.run_bind, ha, h]
theorem part_n {cs : Array Value} {n : Int} {o : Nat} (h : cs[o]? = some (.int .u32 n)) (W : World) : (part 41 cs o).run Try.prog W = .ok (.int .u32 n) W := by
  have ha : (isAgg 41).run Try.prog W = .ok false W := by
    unfold isAgg
    rw [Sem.run_bind, run_underlying Try.underlying41 W]
    rfl
  simp [part, Sem.run_bind, ha, h]
theorem strL : Try.prog.underlying 86 = some (.struct (Try.prog.fieldsOf 86)) := by kernel_rfl
theorem stoL : Try.prog.stoodInHeld 86 = false := by kernel_rfl
theorem fldL : ∃ f1 f2, (Try.prog.fieldsOf 86).toList = [f1, f2] ∧ f1.name ≠ "_" ∧ f1.type = 40 ∧ f1.offset = 0 ∧ f2.name ≠ "_" ∧ f2.type = 41 ∧ f2.offset = 32 := ⟨_, _, rfl, by decide, rfl, rfl, by decide, rfl, rfl⟩
theorem strS : Try.prog.underlying 60 = some (.struct (Try.prog.fieldsOf 60)) := by kernel_rfl
theorem stoS : Try.prog.stoodInHeld 60 = false := by kernel_rfl
theorem fldS : ∃ f1 f2 f3, (Try.prog.fieldsOf 60).toList = [f1, f2, f3] ∧ f1.name ≠ "_" ∧ f1.type = 40 ∧ f1.offset = 0 ∧ f2.name ≠ "_" ∧ f2.type = 41 ∧ f2.offset = 32 ∧ f3.name ≠ "_" ∧ f3.type = 40 ∧ f3.offset = 33 := ⟨_, _, _, rfl, by decide, rfl, rfl, by decide, rfl, rfl, by decide, rfl, rfl⟩
theorem eqf_cons {P : Program} {W : World} {d : Nat} {xs ys : Array Value} {f : Field} {fs : List Field} {a b : Value} {r : Bool} (hn : f.name ≠ "_") (ha : (part f.type xs f.offset).run P W = .ok a W) (hb : (part f.type ys f.offset).run P W = .ok b W) (he : (Op.equalIn d f.type a b).run P W = .ok r W) :
    (Op.eqFields d xs ys (f :: fs)).run P W = if r = true then (Op.eqFields d xs ys fs).run P W else .ok false W := by
  rw [Op.eqFields, if_pos hn, Sem.run_bind, ha, Result.andThen_ok, Sem.run_bind, hb, Result.andThen_ok, Sem.run_bind, he, Result.andThen_ok]
  cases r <;> simp
theorem eqf_nil {P : Program} {W : World} {d : Nat} {xs ys : Array Value} : (Op.eqFields d xs ys []).run P W = .ok true W := by
  rw [Op.eqFields, Sem.run_pure]
theorem eq_lab_d (d : Nat) (x y : Lb) (hx : lok x) (hy : lok y) (W : World) : (Op.equalIn (d + 3) 86 (lenc x) (lenc y)).run Try.prog W = .ok (decide (x = y)) W := by
  obtain ⟨f1, f2, hf, n1, t1, o1, n2, t2, o2⟩ := fldL
  unfold lenc
  rw [run_equalIn_struct W (d + 2) 86 _ _ strL stoL, hf]
  have p1 := part_key hx (chc_key x.1 hx x.2) W
  have p2 := part_key hy (chc_key y.1 hy y.2) W
  have q1 := part_n (chc_n x.1 hx x.2) W
  have q2 := part_n (chc_n y.1 hy y.2) W
  have e0 := eq_key d x.1 y.1 hx hy W
  have i0 := run_equalIn_int W (P := Try.prog) (d + 1) 41 .u32 .u32 x.2 y.2 Try.underlying41
  rw [eqf_cons n1 (by rw [t1, o1]; exact p1) (by rw [t1, o1]; exact p2) (by rw [t1]; exact e0), eqf_cons n2 (by rw [t2, o2]; exact q1) (by rw [t2, o2]; exact q2) (by rw [t2]; exact i0), eqf_nil]
  obtain ⟨xh, xn⟩ := x
  obtain ⟨yh, yn⟩ := y
  by_cases e1 : xh = yh
  · by_cases e2 : xn = yn <;> simp [e1, e2]
  · simp [e1]
theorem eq_lab (x y : Lb) (hx : lok x) (hy : lok y) (W : World) : (Op.equalIn 10000 86 (lenc x) (lenc y)).run Try.prog W = .ok (decide (x = y)) W := eq_lab_d 9997 x y hx hy W
theorem eq_spr_d (d : Nat) (x y : Sr) (hx : x.ok) (hy : y.ok) (W : World) : (Op.equalIn (d + 3) 60 (.agg (srow x)) (.agg (srow y))).run Try.prog W = .ok (decide (x = y)) W := by
  obtain ⟨f1, f2, f3, hf, n1, t1, o1, n2, t2, o2, n3, t3, o3⟩ := fldS
  rw [run_equalIn_struct W (d + 2) 60 _ _ strS stoS, hf]
  have p1 := part_key hx.1 (srow_h hx) W
  have p2 := part_key hy.1 (srow_h hy) W
  have q1 := part_n (srow_n hx) W
  have q2 := part_n (srow_n hy) W
  have r1 := part_key hx.2 (srow_m hx) W
  have r2 := part_key hy.2 (srow_m hy) W
  have e0 := eq_key d x.h y.h hx.1 hy.1 W
  have m0 := eq_key d x.m y.m hx.2 hy.2 W
  have i0 := run_equalIn_int W (P := Try.prog) (d + 1) 41 .u32 .u32 x.n y.n Try.underlying41
  rw [eqf_cons n1 (by rw [t1, o1]; exact p1) (by rw [t1, o1]; exact p2) (by rw [t1]; exact e0), eqf_cons n2 (by rw [t2, o2]; exact q1) (by rw [t2, o2]; exact q2) (by rw [t2]; exact i0), eqf_cons n3 (by rw [t3, o3]; exact r1) (by rw [t3, o3]; exact r2) (by rw [t3]; exact m0), eqf_nil]
  obtain ⟨xh, xn, xm⟩ := x
  obtain ⟨yh, yn, ym⟩ := y
  by_cases e1 : xh = yh
  · by_cases e2 : xn = yn
    · by_cases e3 : xm = ym <;> simp [e1, e2, e3]
    · simp [e1, e2]
  · simp [e1]
theorem eq_spr (x y : Sr) (hx : x.ok) (hy : y.ok) (W : World) : (Op.equalIn 10000 60 (.agg (srow x)) (.agg (srow y))).run Try.prog W = .ok (decide (x = y)) W := eq_spr_d 9997 x y hx hy W
theorem chk_lab (w : World) (em : Bool) (x : Lb) (hx : lok x) : (Instr.checkKey em 10000 86 (lenc x)).run Try.prog w = .ok () w := by
  obtain ⟨h, n⟩ := x
  obtain ⟨x0, x1, x2, x3, x4, x5, x6, x7, x8, x9, x10, x11, x12, x13, x14, x15, x16, x17, x18, x19, x20, x21, x22, x23, x24, x25, x26, x27, x28, x29, x30, x31, rfl⟩ := len32 h hx
  kernel_rfl
theorem chk_key (w : World) (em : Bool) (x : List Int) (hx : kok x) : (Instr.checkKey em 10000 40 (kenc x)).run Try.prog w = .ok () w := by
  obtain ⟨x0, x1, x2, x3, x4, x5, x6, x7, x8, x9, x10, x11, x12, x13, x14, x15, x16, x17, x18, x19, x20, x21, x22, x23, x24, x25, x26, x27, x28, x29, x30, x31, rfl⟩ := len32 x hx
  kernel_rfl
theorem kLb : Kty Try.prog 86 lenc lok := ⟨chk_lab, fun w x y hx hy => eq_lab x y hx hy w, ⟨_, Try.underlying86, fun a b => by cases a <;> rfl⟩⟩
theorem kKy : Kty Try.prog 40 kenc kok := ⟨chk_key, fun w x y hx hy => eq_key 9998 x y hx hy w, ⟨_, Try.underlying40, fun a b => by cases a <;> rfl⟩⟩
end Go.Proofs.Ytebgdenfaiinmaa
