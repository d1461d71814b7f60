import Derived.Test.YtnbkdlfkacbfjaaWk
namespace Go.Proofs.Ytnbkdlfkacbfjaa
open Go Go.RowKit Go.Sort

/-! Fields: on lists, and in worlds. -/
structure Fd where
  no : Int
  ty : Int
  num : Nat
  dat : List B
/-- A number's lowest bytes, the lowest first. -/
def fx : Nat → Nat → List B
  | 0, _ => []
  | k + 1, n => BitVec.ofNat 8 (n % 256) :: fx k (n / 256)
theorem fx_len : ∀ (k n : Nat), (fx k n).length = k
  | 0, _ => rfl
  | k + 1, n => by rw [fx, List.length_cons, fx_len k]
/-- The number of bytes, the lowest first. -/
def fxv : List B → Nat
  | [] => 0
  | x :: l => x.toNat + 256 * fxv l
theorem fxv_fx : ∀ (k n : Nat), fxv (fx k n) = n % 256 ^ k
  | 0, n => by rw [fx, fxv, Nat.pow_zero, Nat.mod_one]
  | k + 1, n => by
    rw [fx, fxv, fxv_fx k, b_of _ (by omega), Nat.pow_succ, Nat.mul_comm (256 ^ k) 256, Nat.mod_mul]
theorem fxv_lt : ∀ l : List B, fxv l < 256 ^ l.length
  | [] => by decide
  | x :: l => by
    have := fxv_lt l
    have := x.isLt
    rw [fxv, List.length_cons, Nat.pow_succ]
    omega
theorem fx_fxv : ∀ l : List B, fx l.length (fxv l) = l
  | [] => rfl
  | x :: l => by
    have hx := x.isLt
    rw [List.length_cons, fx, fxv, show (x.toNat + 256 * fxv l) % 256 = x.toNat by omega, show (x.toNat + 256 * fxv l) / 256 = fxv l by omega, fx_fxv l, BitVec.ofNat_toNat, BitVec.setWidth_eq]
def known (t : Int) : Prop := t = 0 ∨ t = 1 ∨ t = 2 ∨ t = 5
instance (t : Int) : Decidable (known t) := by unfold known; exact inferInstance
def fits (f : Fd) : Prop := if f.ty = 2 then f.num = 0 else f.dat = [] ∧ (f.ty = 5 → f.num ≤ 4294967295)
instance (f : Fd) : Decidable (fits f) := by unfold fits; exact inferInstance
/-- A field's first number. -/
def fhd (f : Fd) : Nat := 8 * f.no.toNat + f.ty.toNat
/-- What stands behind it. -/
def fvl (f : Fd) : List B := if f.ty = 0 then en f.num else if f.ty = 1 then fx 8 f.num else if f.ty = 5 then fx 4 f.num else itm f.dat
def fby (f : Fd) : List B := en (fhd f) ++ fvl f
/-- What is wrong with a field's number and type; with a field. -/
def hck (f : Fd) (last : Int) : Int := if f.no ≤ last ∨ 536870911 < f.no then 71 else if known f.ty then 0 else 72
def fck (f : Fd) (last : Int) : Int := if hck f last ≠ 0 then hck f last else if fits f then 0 else 1
/-- What is wrong with fields. -/
def ech : List Fd → Int → Int
  | [], _ => 0
  | f :: l, last => if fck f last ≠ 0 then fck f last else ech l f.no
def ebs : List Fd → List B
  | [] => []
  | f :: l => fby f ++ ebs l
theorem ebs_app (a b : List Fd) : ebs (a ++ b) = ebs a ++ ebs b := by
  induction a with
  | nil => rfl
  | cons p l ih => rw [List.cons_append, ebs, ebs, ih, List.append_assoc]
theorem ebs_one (f : Fd) : ebs [f] = fby f := by rw [ebs, ebs, List.append_nil]
/-- What Encode answers. -/
def eer (fs : List Fd) : Int := if 64 < fs.length then 2 else if ech fs 0 ≠ 0 then ech fs 0 else if 4194304 < (ebs fs).length then 2 else 0
def eout (fs : List Fd) : List B := if eer fs = 0 then ebs fs else []
def f0 : Fd := ⟨0, 0, 0, []⟩
/-- A field of a list. -/
def gf (fs : List Fd) (i : Nat) : Fd := fs.getD i f0
theorem ftake_snoc (fs : List Fd) (k : Nat) (h : k < fs.length) : fs.take (k + 1) = fs.take k ++ [gf fs k] := by
  rw [List.take_succ_eq_append_getElem h, gf, List.getD_eq_getElem?_getD, List.getElem?_eq_getElem h]; rfl
theorem ebs_snoc (fs : List Fd) (k : Nat) (h : k < fs.length) : ebs (fs.take (k + 1)) = ebs (fs.take k) ++ fby (gf fs k) := by
  rw [ftake_snoc fs k h, ebs_app, ebs_one]
theorem ebs_mono (fs : List Fd) (k : Nat) : (ebs (fs.take k)).length ≤ (ebs fs).length := by
  conv => rhs; rw [← List.take_append_drop k fs, ebs_app, List.length_append]
  omega
/-- The number of the last one of k. -/
def lst (fs : List Fd) (k : Nat) : Int := if k = 0 then 0 else (gf fs (k - 1)).no
theorem fdrop_at (fs : List Fd) (j : Nat) (h : j < fs.length) : fs.drop j = gf fs j :: fs.drop (j + 1) := by
  rw [List.drop_eq_getElem_cons h, gf, List.getD_eq_getElem?_getD, List.getElem?_eq_getElem h]
  rfl
theorem lst_succ (fs : List Fd) (k : Nat) : lst fs (k + 1) = (gf fs k).no := by rw [lst, if_neg (by omega), Nat.add_sub_cancel]
theorem fck_ok {f : Fd} {last : Int} (h : fck f last = 0) : last < f.no ∧ f.no ≤ 536870911 ∧ known f.ty ∧ fits f := by
  unfold fck hck at h
  by_cases h1 : f.no ≤ last ∨ 536870911 < f.no
  · rw [if_pos h1] at h; simp at h
  · rw [if_neg h1] at h
    by_cases h2 : known f.ty
    · rw [if_pos h2] at h
      by_cases h3 : fits f
      · exact ⟨by omega, by omega, h2, h3⟩
      · rw [if_neg h3] at h; simp at h
    · rw [if_neg h2] at h; simp at h
theorem known_lt {t : Int} (h : known t) : 0 ≤ t ∧ t < 8 := by unfold known at h; omega
/-- The four cells of a field. -/
def frow (f : Fd) (u : Value) : List Value := [.int .i64 f.no, .int .i64 f.ty, .int .u64 (f.num : Int), u]
/-- What holds of every field that comes in. -/
def Fok (f : Fd) : Prop := f.num < 18446744073709551616 ∧ f.dat.length ≤ 140737488351232 ∧ -9223372036854775808 ≤ f.no ∧ f.no ≤ 9223372036854775807
/-- Fields, as they lie in a world. -/
def Fds (W : World) (v : Value) (fs : List Fd) : Prop := ∃ ao cap, v = .slice ao fs.length cap ∧ fs.length ≤ 2932031007317 ∧ fs.length ≤ cap ∧ (ao = none → cap = 0) ∧ ∀ i, i < fs.length → ∃ b off u, ao = some ⟨b, off, none⟩ ∧ b < W.heap.size ∧ W.rangeAt b (off + i * 4) (frow (gf fs i) u) ∧ BysB W u (gf fs i).dat ∧ Fok (gf fs i)
theorem range_keep {W V : World} {b o : Nat} {cs : List Value} (h : W.rangeAt b o cs) (hb : Below W.heap.size W V) (hlt : b < W.heap.size) : V.rangeAt b o cs := fun j v hv => (hb.cell (p := ⟨b, o + j, none⟩) hlt).trans (h j v hv)
theorem range_keep2 {w W V : World} {b o : Nat} {cs : List Value} (h : W.rangeAt b o cs) (hb : Below w.heap.size W V) (hlt : b < w.heap.size) : V.rangeAt b o cs := fun j v hv => (hb.cell (p := ⟨b, o + j, none⟩) hlt).trans (h j v hv)
theorem Fds.keep {W V : World} {v : Value} {fs : List Fd} (h : Fds W v fs) (hb : Below W.heap.size W V) : Fds V v fs := by
  obtain ⟨ao, cap, e, hl, hlc, hn, hc⟩ := h
  refine ⟨ao, cap, e, hl, hlc, hn, fun i hi => ?_⟩
  obtain ⟨b, off, u, e1, h1, h2, h3, h4⟩ := hc i hi
  exact ⟨b, off, u, e1, Nat.lt_of_lt_of_le h1 hb.size, range_keep h2 hb h1, h3.keep hb, h4⟩
theorem Fds.form {W : World} {v : Value} {fs : List Fd} (h : Fds W v fs) : ∃ ao cap, v = .slice ao fs.length cap := by
  obtain ⟨ao, cap, e, _⟩ := h
  exact ⟨ao, cap, e⟩
theorem Fds.len {W : World} {v : Value} {fs : List Fd} (h : Fds W v fs) : fs.length ≤ 2932031007317 := by
  obtain ⟨_, _, _, hl, _⟩ := h
  exact hl
theorem Fds.ok {W : World} {v : Value} {fs : List Fd} (h : Fds W v fs) {i : Nat} (hi : i < fs.length) : Fok (gf fs i) := by
  obtain ⟨_, _, _, _, _, _, hc⟩ := h
  obtain ⟨_, _, _, _, _, _, _, h4⟩ := hc i hi
  exact h4
theorem Fds.at {W : World} {ao : Option Addr} {l cap : Nat} {fs : List Fd} (h : Fds W (.slice ao l cap) fs) {i : Nat} (hi : i < fs.length) : ∃ b off u uc, ao = some ⟨b, off, none⟩ ∧ b < W.heap.size ∧ W.rangeAt b (off + i * 4) (frow (gf fs i) (.slice u (gf fs i).dat.length uc)) ∧ BysB W (.slice u (gf fs i).dat.length uc) (gf fs i).dat ∧ Fok (gf fs i) := by
  obtain ⟨ao', cap', e, _, _, _, hc⟩ := h
  cases e
  obtain ⟨b, off, u, e1, h1, h2, h3, h4⟩ := hc i hi
  obtain ⟨uo, uc, rfl⟩ := h3.form
  exact ⟨b, off, uo, uc, e1, h1, h2, h3, h4⟩
theorem infoF : (Try.prog.info? 35).map (·.size) = some 4 := by kernel_rfl
theorem bFd (cs : Array Value) (W : World) : (Instr.box 35 (.agg cs)).run Try.prog W = .ok (.pointer (some ⟨W.heap.size, 0, none⟩)) (W.alloc (.cells cs 35)) := by kernel_rfl
theorem zFd (W : World) : (Instr.alloc 35 true (.tuple #[])).run Try.prog W = .ok (.pointer (some ⟨W.heap.size, 0, none⟩)) (W.alloc (.cells #[.int .i64 0, .int .i64 0, .int .u64 0, .slice none 0 0] 35)) := by kernel_rfl
/-- A field of a slice read, in an ordered region. -/
theorem wpList_load_fd {ops : Array Oper} {rest : List Oper} {o : Oper} {a : Act} {w : World} {Q : Exit → Act → World → Prop} (hw : Region.wanted o (yielded ops a.tmps) = true) (x : Operand) (ho : o.op = .load 35 x)
    (g off : Nat) (hx : a.eval x = .pointer (some ⟨g, off, none⟩)) (c0 c1 c2 c3 : Value) (hr : w.rangeAt g off [c0, c1, c2, c3])
    (h : wpList Try.prog ops Q rest (a.put o.dst (.agg #[c0, c1, c2, c3])) w) : wpList Try.prog ops Q (o :: rest) a w :=
  BigFrame.wpList_want hw fun _ hK => wp_load_mid 35 x ho g off hx [c0, c1, c2, c3] _ hr Try.underlying35 rfl infoF (hK _ _ h)
end Go.Proofs.Ytnbkdlfkacbfjaa
