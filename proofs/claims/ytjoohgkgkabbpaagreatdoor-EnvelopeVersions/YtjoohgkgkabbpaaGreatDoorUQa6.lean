import Derived.Test.YtjoohgkgkabbpaaGreatDoorProg
import Derived.WalkKit
import Derived.WalkSpells
import Derived.WalkLawsBesides
import Derived.Lib.QuietBelow
import Derived.Laws.BitsAllLaws
import Derived.BigQuiet
import Derived.WalkMore
import Derived.Test.YtjoohgkgkabbpaaGreatDoorUOpen
import Derived.Test.YtjoohgkgkabbpaaGreatDoorUQa1
namespace Go.Proofs.YtjoohgkgkabbpaaGreatDoor
set_option maxRecDepth 100000
open Go Go.RowKit Go.Sort
attribute [local go_sem] setCell_drewN alloc_drewN
theorem wp_append_gen {P : Program} {w : World} {o : Oper} {a : Act} {K : Act → World → Prop} {Q : Exit → Act → World → Prop} (s x : Operand) (t : TypeId)
 (ho : o.op = .call { callee := .builtin .append, args := #[s, x], argTypes := #[t, t] })
 (base : Nat) (e : TypeId) (i : TypeInfo) (z : Value) (size bytes : Nat) (ht : P.underlying t = some (.slice e)) (hi : P.info? e = some i) (hz : i.zero = some z)
 (hsize : i.size = size) (hby : i.bytes = bytes) (hzs : z.cells.size = size) (hsz : 0 < size)
 (v : Value) (n : Nat) (xs : List Value) (hs : a.eval s = v) (hown : w.ownsRow base e size v n xs)
 (ad : Addr) (m c : Nat) (news : List Value) (hx : a.eval x = .slice (some ad) m c) (hl : news.length = m * size) (hm : 0 < m) (hnews : ∀ j u, news[j]? = some u → w.cell? (ad.add j) = some u) (h1 : ∀ u ∈ news, u.oneCell' = true)
 (h63 : n + m ≤ maxLen) (hbytes : (n + m) * bytes ≤ 140737488355328) (hbase : base ≤ w.heap.size)
 (h : ∀ v' w', w'.ownsRow base e size v' (n + m) (xs ++ news) → w.grownBy w' v.ownBlock → ((v'.ownBlock = v.ownBlock ∧ v.ownBlock ≠ none) ∨ ∃ k, v'.ownBlock = some k ∧ w.heap.size ≤ k) → K (a.put o.dst v') w') : o.wp P a w K Q := by
 obtain ⟨v', w', hr, h2, h3, h4⟩ := run_append_own (P := P) w base t o.type e i z size bytes ht hi hz hsize hby hzs hsz _ n xs hown ad m c news hl hnews h1 h63 hbytes hbase
 have key : (v'.ownBlock = v.ownBlock ∧ v.ownBlock ≠ none) ∨ ∃ k, v'.ownBlock = some k ∧ w.heap.size ≤ k := by
  rcases hown.2 with ⟨rfl, hn0⟩ | ⟨g1, cap1, cur, rfl, hbg, hg, hnc, hcm, hcs, htake⟩
  ·have hown2 : w.ownsRow w.heap.size e size (.slice none 0 0) n xs := ⟨hown.1, .inl ⟨rfl, hn0⟩⟩
   obtain ⟨v2, w2, hr2, g2, _, g4⟩ := run_append_own (P := P) w w.heap.size t o.type e i z size bytes ht hi hz hsize hby hzs hsz _ n xs hown2 ad m c news hl hnews h1 h63 hbytes (Nat.le_refl _)
   have he := hr.symm.trans hr2
   injection he with e1 e2
   subst e1
   rcases g2.2 with ⟨hv, _⟩ | ⟨g, cap, _, hv, hbg, _⟩
   ·have := g4.1 hv
    omega
   ·exact .inr ⟨g, by rw [hv]; rfl, hbg⟩
  ·by_cases hroom : n + m ≤ cap1
   ·have hr2 := run_append_room (P := P) w t o.type e i ht hi g1 n cap1 cur hg ad m c news (by rw [hsize]; exact hl) hnews h1 hroom (by rw [hsize, hl, hcs, ← Nat.add_mul]; exact Nat.mul_le_mul_right _ hroom)
    have he := hr.symm.trans hr2
    injection he with e1 e2
    exact .inl ⟨by rw [e1]; rfl, by simp [Value.ownBlock]⟩
   ·have holds : ∀ j u, xs[j]? = some u → w.cell? ((⟨g1, 0, none⟩ : Addr).add j) = some u := hown.cells (g := g1) rfl
    have hr2 := run_append_grow (P := P) w t o.type e i z ht hi hz ⟨g1, 0, none⟩ n cap1 xs (by rw [hsize]; exact hown.1) holds ad m c news (by rw [hsize]; exact hl) hnews (by omega) (by simp only [maxLen] at h63; omega) (growslice_fits (by omega) (by rw [hby]; exact hbytes))
    have he := hr.symm.trans hr2
    injection he with e1 e2
    exact .inr ⟨w.heap.size, by rw [e1]; rfl, Nat.le_refl _⟩
 unfold Oper.wp execOp
 simp only [ho, resolve, invoke, builtin, Sem.run_bind, Sem.run_pure, Result.andThen_ok, List.map_toArray, List.map_cons, List.map_nil, hs, hx, hr]
 exact h v' w' h2 h3 key
def gv (us : List Value) (i : Nat) : Value := us.getD i undef
def Its (W : World) (base : Nat) (v : Value) (us : List Value) (ps : List (List B)) : Prop :=
 W.ownsRow base 22 1 v us.length us ∧ us.length = ps.length ∧ (∀ i, i < us.length → Own W base (gv us i) (gp ps i)) ∧
 (∀ i, i < us.length → ∀ k, (gv us i).ownBlock = some k → v.ownBlock ≠ some k) ∧ (∀ i j, i < j → j < us.length → ∀ k, (gv us i).ownBlock = some k → (gv us j).ownBlock ≠ some k)
theorem own_keep_row {W V : World} {b : Nat} {e : TypeId} {sz : Nat} {v : Value} {n : Nat} {xs : List Value} (h : W.ownsRow b e sz v n xs) (hb : Below W.heap.size W V) : V.ownsRow b e sz v n xs := by
 obtain ⟨h1, h2 | ⟨g, cap, cur, rfl, hb2, hg, h3⟩⟩ := h
 ·exact ⟨h1, .inl h2⟩
 ·exact ⟨h1, .inr ⟨g, cap, cur, rfl, hb2, Go.Proofs.YtjoohgkgkabbpaaGreatDoor.keep hb hg, h3⟩⟩
theorem own_high_row {W : World} {b : Nat} {e : TypeId} {sz : Nat} {v : Value} {n : Nat} {xs : List Value} (h : W.ownsRow b e sz v n xs) : ∀ k, v.ownBlock = some k → b ≤ k ∧ k < W.heap.size := by
 obtain ⟨h1, ⟨rfl, _⟩ | ⟨g, cap, cur, rfl, hb, hg, _⟩⟩ := h
 ·intro k hk; cases hk
 ·intro k hk
  have : g = k := by simpa [Value.ownBlock] using hk
  have := lt_of_row hg
  omega
theorem Its.keep {W V : World} {b : Nat} {v : Value} {us : List Value} {ps : List (List B)} (h : Its W b v us ps) (hb : Below W.heap.size W V) : Its V b v us ps :=
 ⟨own_keep_row h.1 hb, h.2.1, fun i hi => (h.2.2.1 i hi).keep hb, h.2.2.2⟩
theorem gv_app_lo {us : List Value} {u : Value} {i : Nat} (h : i < us.length) : gv (us ++ [u]) i = gv us i := by
 rw [gv, gv, List.getD_eq_getElem?_getD, List.getElem?_append_left h, ← List.getD_eq_getElem?_getD]
theorem gv_app_hi {us : List Value} {u : Value} : gv (us ++ [u]) us.length = u := by
 rw [gv, List.getD_eq_getElem?_getD, List.getElem?_append_right (Nat.le_refl _), Nat.sub_self]; rfl
theorem gp_app_lo {ps : List (List B)} {p : List B} {i : Nat} (h : i < ps.length) : gp (ps ++ [p]) i = gp ps i := by
 rw [gp, gp, List.getD_eq_getElem?_getD, List.getElem?_append_left h, ← List.getD_eq_getElem?_getD]
theorem gp_app_hi {ps : List (List B)} {p : List B} : gp (ps ++ [p]) ps.length = p := by
 rw [gp, List.getD_eq_getElem?_getD, List.getElem?_append_right (Nat.le_refl _), Nat.sub_self]; rfl
theorem Its.snoc {W W' : World} {b L : Nat} {v v' : Value} {us : List Value} {ps : List (List B)} {u : Value} {p : List B} (h : Its W b v us ps) (hL : ∀ k, v.ownBlock = some k → k < L) (hLi : ∀ i, i < us.length → ∀ k, (gv us i).ownBlock = some k → k < L) (hbL : b ≤ L)
 (hu : Own W L u p) (ho : W'.ownsRow b 22 1 v' (us.length + 1) (us ++ [u])) (hg : W.grownBy W' v.ownBlock) (hk : (v'.ownBlock = v.ownBlock ∧ v.ownBlock ≠ none) ∨ ∃ k, v'.ownBlock = some k ∧ W.heap.size ≤ k) : Its W' b v' (us ++ [u]) (ps ++ [p]) := by
 obtain ⟨h1, h2, h3, h4, h5⟩ := h
 have hu2 : Own W' L u p := hu.grown2 hg hL
 have hlu : ∀ k, u.ownBlock = some k → L ≤ k ∧ k < W.heap.size := fun k e => ⟨own_low hu k e, own_high hu k e⟩
 refine ⟨by rw [List.length_append, List.length_singleton]; exact ho, by rw [List.length_append, List.length_append, h2]; rfl, fun i hi => ?_, fun i hi k e => ?_, fun i j hij hj k e => ?_⟩
 ·rw [List.length_append, List.length_singleton] at hi
  rcases Nat.lt_or_ge i us.length with q | q
  ·rw [gv_app_lo q, gp_app_lo (by omega)]
   have ho3 := h3 i q
   obtain ⟨q1, q2 | ⟨g, cap, cur, q2, hb2, hr, q3⟩⟩ := ho3
   ·exact ⟨q1, .inl q2⟩
   ·refine ⟨q1, .inr ⟨g, cap, cur, q2, hb2, (hg.block g (lt_of_row hr) (fun e => ?_)).trans hr, q3⟩⟩
    exact h4 i q g (by rw [q2]; rfl) e.symm
  ·obtain rfl : i = us.length := by omega
   rw [gv_app_hi, h2, gp_app_hi]
   obtain ⟨q1, q2 | ⟨g, cap, cur, q2, hb2, hr⟩⟩ := hu2
   ·exact ⟨q1, .inl q2⟩
   ·exact ⟨q1, .inr ⟨g, cap, cur, q2, by omega, hr⟩⟩
 ·rw [List.length_append, List.length_singleton] at hi
  intro e2
  rcases hk with ⟨hk1, hk2⟩ | ⟨k', hk1, hk2⟩
  ·rw [hk1] at e2
   rcases Nat.lt_or_ge i us.length with q | q
   ·rw [gv_app_lo q] at e
    exact h4 i q k e e2
   ·obtain rfl : i = us.length := by omega
    rw [gv_app_hi] at e
    have := hL k e2
    have := (hlu k e).1
    omega
  ·rw [hk1] at e2
   cases e2
   rcases Nat.lt_or_ge i us.length with q | q
   ·rw [gv_app_lo q] at e
    have := own_high (h3 i q) _ e
    omega
   ·obtain rfl : i = us.length := by omega
    rw [gv_app_hi] at e
    have := (hlu _ e).2
    omega
 ·rw [List.length_append, List.length_singleton] at hj
  rcases Nat.lt_or_ge j us.length with q | q
  ·rw [gv_app_lo (by omega)] at e
   rw [gv_app_lo q]
   exact h5 i j hij q k e
  ·obtain rfl : j = us.length := by omega
   rw [gv_app_lo hij] at e
   rw [gv_app_hi]
   intro e2
   have := hLi i hij k e
   have := (hlu k e2).1
   omega
theorem Its.high {W : World} {b : Nat} {v : Value} {us : List Value} {ps : List (List B)} (h : Its W b v us ps) : (∀ k, v.ownBlock = some k → k < W.heap.size) ∧ ∀ i, i < us.length → ∀ k, (gv us i).ownBlock = some k → k < W.heap.size :=
 ⟨fun k e => (own_high_row h.1 k e).2, fun i hi k e => own_high (h.2.2.1 i hi) k e⟩
end Go.Proofs.YtjoohgkgkabbpaaGreatDoor
namespace Go.Proofs.YtjoohgkgkabbpaaGreatDoor
set_option maxRecDepth 100000
open Go Go.RowKit Go.Sort
/-! Fields: on lists, and in worlds. -/
structure Fd where
 no : Int
 ty : Int
 num : Nat
 dat : List B
def fx : Nat → Nat → List B
 | 0, _ => []
 | k + 1, n => BitVec.ofNat 8 (n % 256) :: fx k (n / 256)
theorem fx_len : ∀ (k n : Nat), (fx k n).length = k
 | 0, _ => rfl
 | k + 1, n => by rw [fx, List.length_cons, fx_len k]
def fxv : List B → Nat
 | [] => 0
 | x :: l => x.toNat + 256 * fxv l
theorem fxv_fx : ∀ (k n : Nat), fxv (fx k n) = n % 256 ^ k
 | 0, n => by rw [fx, fxv, Nat.pow_zero, Nat.mod_one]
 | k + 1, n => by
  rw [fx, fxv, fxv_fx k, b_of _ (by omega), Nat.pow_succ, Nat.mul_comm (256 ^ k) 256, Nat.mod_mul]
theorem fxv_lt : ∀ l : List B, fxv l < 256 ^ l.length
 | [] => by decide
 | x :: l => by
  have := fxv_lt l
  have := x.isLt
  rw [fxv, List.length_cons, Nat.pow_succ]
  omega
theorem fx_fxv : ∀ l : List B, fx l.length (fxv l) = l
 | [] => rfl
 | x :: l => by
  have hx := x.isLt
  rw [List.length_cons, fx, fxv, show (x.toNat + 256 * fxv l) % 256 = x.toNat by omega, show (x.toNat + 256 * fxv l) / 256 = fxv l by omega, fx_fxv l, BitVec.ofNat_toNat, BitVec.setWidth_eq]
def known (t : Int) : Prop := t = 0 ∨ t = 1 ∨ t = 2 ∨ t = 5
instance (t : Int) : Decidable (known t) := by unfold known; exact inferInstance
def fits (f : Fd) : Prop := if f.ty = 2 then f.num = 0 else f.dat = [] ∧ (f.ty = 5 → f.num ≤ 4294967295)
instance (f : Fd) : Decidable (fits f) := by unfold fits; exact inferInstance
def fhd (f : Fd) : Nat := 8 * f.no.toNat + f.ty.toNat
def fvl (f : Fd) : List B := if f.ty = 0 then en f.num else if f.ty = 1 then fx 8 f.num else if f.ty = 5 then fx 4 f.num else itm f.dat
def fby (f : Fd) : List B := en (fhd f) ++ fvl f
def hck (f : Fd) (last : Int) : Int := if f.no ≤ last ∨ 536870911 < f.no then 71 else if known f.ty then 0 else 72
def fck (f : Fd) (last : Int) : Int := if hck f last ≠ 0 then hck f last else if fits f then 0 else 1
def ech : List Fd → Int → Int
 | [], _ => 0
 | f :: l, last => if fck f last ≠ 0 then fck f last else ech l f.no
def ebs : List Fd → List B
 | [] => []
 | f :: l => fby f ++ ebs l
theorem ebs_app (a b : List Fd) : ebs (a ++ b) = ebs a ++ ebs b := by
 induction a with
 | nil => rfl
 | cons p l ih => rw [List.cons_append, ebs, ebs, ih, List.append_assoc]
theorem ebs_one (f : Fd) : ebs [f] = fby f := by rw [ebs, ebs, List.append_nil]
def eer (fs : List Fd) : Int := if 64 < fs.length then 2 else if ech fs 0 ≠ 0 then ech fs 0 else if 4194304 < (ebs fs).length then 2 else 0
def eout (fs : List Fd) : List B := if eer fs = 0 then ebs fs else []
def f0 : Fd := ⟨0, 0, 0, []⟩
def gf (fs : List Fd) (i : Nat) : Fd := fs.getD i f0
theorem ftake_snoc (fs : List Fd) (k : Nat) (h : k < fs.length) : fs.take (k + 1) = fs.take k ++ [gf fs k] := by
 rw [List.take_succ_eq_append_getElem h, gf, List.getD_eq_getElem?_getD, List.getElem?_eq_getElem h]; rfl
theorem ebs_snoc (fs : List Fd) (k : Nat) (h : k < fs.length) : ebs (fs.take (k + 1)) = ebs (fs.take k) ++ fby (gf fs k) := by
 rw [ftake_snoc fs k h, ebs_app, ebs_one]
theorem ebs_mono (fs : List Fd) (k : Nat) : (ebs (fs.take k)).length ≤ (ebs fs).length := by
 conv => rhs; rw [← List.take_append_drop k fs, ebs_app, List.length_append]
 omega
def lst (fs : List Fd) (k : Nat) : Int := if k = 0 then 0 else (gf fs (k - 1)).no
theorem fdrop_at (fs : List Fd) (j : Nat) (h : j < fs.length) : fs.drop j = gf fs j :: fs.drop (j + 1) := by
 rw [List.drop_eq_getElem_cons h, gf, List.getD_eq_getElem?_getD, List.getElem?_eq_getElem h]
 rfl
theorem lst_succ (fs : List Fd) (k : Nat) : lst fs (k + 1) = (gf fs k).no := by rw [lst, if_neg (by omega), Nat.add_sub_cancel]
theorem fck_ok {f : Fd} {last : Int} (h : fck f last = 0) : last < f.no ∧ f.no ≤ 536870911 ∧ known f.ty ∧ fits f := by
 unfold fck hck at h
 by_cases h1 : f.no ≤ last ∨ 536870911 < f.no
 ·rw [if_pos h1] at h; simp at h
 ·rw [if_neg h1] at h
  by_cases h2 : known f.ty
  ·rw [if_pos h2] at h
   by_cases h3 : fits f
   ·exact ⟨by omega, by omega, h2, h3⟩
   ·rw [if_neg h3] at h; simp at h
  ·rw [if_neg h2] at h; simp at h
theorem known_lt {t : Int} (h : known t) : 0 ≤ t ∧ t < 8 := by unfold known at h; omega
def frow (f : Fd) (u : Value) : List Value := [.int .i64 f.no, .int .i64 f.ty, .int .u64 (f.num : Int), u]
def Fok (f : Fd) : Prop := f.num < 18446744073709551616 ∧ f.dat.length ≤ 140737488351232 ∧ -9223372036854775808 ≤ f.no ∧ f.no ≤ 9223372036854775807
def Fds (W : World) (v : Value) (fs : List Fd) : Prop := ∃ ao cap, v = .slice ao fs.length cap ∧ fs.length ≤ 2932031007317 ∧ fs.length ≤ cap ∧ (ao = none → cap = 0) ∧ ∀ i, i < fs.length → ∃ b off u, ao = some ⟨b, off, none⟩ ∧ b < W.heap.size ∧ W.rangeAt b (off + i * 4) (frow (gf fs i) u) ∧ BysB W u (gf fs i).dat ∧ Fok (gf fs i)
theorem range_keep {W V : World} {b o : Nat} {cs : List Value} (h : W.rangeAt b o cs) (hb : Below W.heap.size W V) (hlt : b < W.heap.size) : V.rangeAt b o cs := fun j v hv => (hb.cell (p := ⟨b, o + j, none⟩) hlt).trans (h j v hv)
theorem range_keep2 {w W V : World} {b o : Nat} {cs : List Value} (h : W.rangeAt b o cs) (hb : Below w.heap.size W V) (hlt : b < w.heap.size) : V.rangeAt b o cs := fun j v hv => (hb.cell (p := ⟨b, o + j, none⟩) hlt).trans (h j v hv)
theorem Fds.keep {W V : World} {v : Value} {fs : List Fd} (h : Fds W v fs) (hb : Below W.heap.size W V) : Fds V v fs := by
 obtain ⟨ao, cap, e, hl, hlc, hn, hc⟩ := h
 refine ⟨ao, cap, e, hl, hlc, hn, fun i hi => ?_⟩
 obtain ⟨b, off, u, e1, h1, h2, h3, h4⟩ := hc i hi
 exact ⟨b, off, u, e1, Nat.lt_of_lt_of_le h1 hb.size, range_keep h2 hb h1, h3.keep hb, h4⟩
theorem Fds.form {W : World} {v : Value} {fs : List Fd} (h : Fds W v fs) : ∃ ao cap, v = .slice ao fs.length cap := by
 obtain ⟨ao, cap, e, _⟩ := h
 exact ⟨ao, cap, e⟩
theorem Fds.len {W : World} {v : Value} {fs : List Fd} (h : Fds W v fs) : fs.length ≤ 2932031007317 := by
 obtain ⟨_, _, _, hl, _⟩ := h
 exact hl
theorem Fds.ok {W : World} {v : Value} {fs : List Fd} (h : Fds W v fs) {i : Nat} (hi : i < fs.length) : Fok (gf fs i) := by
 obtain ⟨_, _, _, _, _, _, hc⟩ := h
 obtain ⟨_, _, _, _, _, _, _, h4⟩ := hc i hi
 exact h4
theorem Fds.at {W : World} {ao : Option Addr} {l cap : Nat} {fs : List Fd} (h : Fds W (.slice ao l cap) fs) {i : Nat} (hi : i < fs.length) : ∃ b off u uc, ao = some ⟨b, off, none⟩ ∧ b < W.heap.size ∧ W.rangeAt b (off + i * 4) (frow (gf fs i) (.slice u (gf fs i).dat.length uc)) ∧ BysB W (.slice u (gf fs i).dat.length uc) (gf fs i).dat ∧ Fok (gf fs i) := by
 obtain ⟨ao', cap', e, _, _, _, hc⟩ := h
 cases e
 obtain ⟨b, off, u, e1, h1, h2, h3, h4⟩ := hc i hi
 obtain ⟨uo, uc, rfl⟩ := h3.form
 exact ⟨b, off, uo, uc, e1, h1, h2, h3, h4⟩
theorem infoF : (Tryz.prog.info? 72).map (·.size) = some 4 := by kernel_rfl
theorem zFd (W : World) : (Instr.alloc 72 true (.tuple #[])).run Tryz.prog W = .ok (.pointer (some ⟨W.heap.size, 0, none⟩)) (W.alloc (.cells #[.int .i64 0, .int .i64 0, .int .u64 0, .slice none 0 0] 72)) := by kernel_rfl
theorem wpList_load_fd {ops : Array Oper} {rest : List Oper} {o : Oper} {a : Act} {w : World} {Q : Exit → Act → World → Prop} (hw : Region.wanted o (yielded ops a.tmps) = true) (x : Operand) (ho : o.op = .load 72 x)
 (g off : Nat) (hx : a.eval x = .pointer (some ⟨g, off, none⟩)) (c0 c1 c2 c3 : Value) (hr : w.rangeAt g off [c0, c1, c2, c3])
 (h : wpList Tryz.prog ops Q rest (a.put o.dst (.agg #[c0, c1, c2, c3])) w) : wpList Tryz.prog ops Q (o :: rest) a w :=
 BigFrame.wpList_want hw fun _ hK => wp_load_mid 72 x ho g off hx [c0, c1, c2, c3] _ hr Tryz.underlying72 rfl infoF (hK _ _ h)
end Go.Proofs.YtjoohgkgkabbpaaGreatDoor
namespace Go.Proofs.YtjoohgkgkabbpaaGreatDoor
set_option maxRecDepth 100000
open Go Go.RowKit Go.Sort
attribute [local go_sem] setCell_drewN alloc_drewN
def Frm (w w' : World) (v : Value) : Prop := ∀ k, k < w.heap.size → v.ownBlock ≠ some k → w'.heap[k]? = w.heap[k]?
def Nx (w : World) (v v' : Value) : Prop := v'.ownBlock = v.ownBlock ∨ ∃ k, v'.ownBlock = some k ∧ w.heap.size ≤ k
theorem Frm.refl (w : World) (v : Value) : Frm w w v := fun _ _ _ => rfl
theorem Nx.refl (w : World) (v : Value) : Nx w v v := .inl rfl
theorem Nx.trans {w W : World} {v s s' : Value} (h : Nx w v s) (hs : w.heap.size ≤ W.heap.size) (h2 : Nx W s s') : Nx w v s' := by
 rcases h2 with e | ⟨k, e, hk⟩
 ·rcases h with e2 | ⟨k, e2, hk⟩
  ·exact .inl (e.trans e2)
  ·exact .inr ⟨k, e.trans e2, hk⟩
 ·exact .inr ⟨k, e, by omega⟩
theorem Nx.unalloc {W : World} {o : Obj} {s s' : Value} (h : Nx (W.alloc o) s s') : Nx W s s' := by
 rcases h with e | ⟨k, e, hk⟩
 ·exact .inl e
 ·exact .inr ⟨k, e, by rw [size_alloc1] at hk; omega⟩
theorem Nx.ne {w : World} {v s : Value} (h : Nx w v s) {k : Nat} (hk : k < w.heap.size) (hv : v.ownBlock ≠ some k) : s.ownBlock ≠ some k := by
 rcases h with e | ⟨k', e, hk'⟩
 ·rw [e]; exact hv
 ·rw [e]; intro e2; cases e2; omega
theorem Frm.step {w W V : World} {v s : Value} (h : Frm w W v) (hs : w.heap.size ≤ W.heap.size) (hn : Nx w v s) (hg : W.grownBy V s.ownBlock) : Frm w V v := fun k hk hv =>
 (hg.block k (by omega) (fun e => hn.ne hk hv e.symm)).trans (h k hk hv)
theorem Frm.alloc {w W : World} {v : Value} (h : Frm w W v) (hs : w.heap.size ≤ W.heap.size) (o : Obj) : Frm w (W.alloc o) v := fun k hk hv => by
 rw [← h k hk hv]
 show (W.heap.push o)[k]? = _
 rw [Array.getElem?_push, if_neg (by omega)]
theorem Frm.trans {w W V : World} {v s : Value} (h : Frm w W v) (hs : w.heap.size ≤ W.heap.size) (hn : Nx w v s) (h2 : Frm W V s) : Frm w V v := fun k hk hv => (h2 k (by omega) (hn.ne hk hv)).trans (h k hk hv)
theorem Frm.below {w W V : World} {v : Value} (h : Frm w W v) (hs : w.heap.size ≤ W.heap.size) (hb : Below W.heap.size W V) : Frm w V v := fun k hk hv => (hb.block k (by omega)).trans (h k hk hv)
theorem Frm.cell {w W : World} {v : Value} (h : Frm w W v) {b o : Nat} (hb : b < w.heap.size) (hv : v.ownBlock ≠ some b) : W.cell? ⟨b, o, none⟩ = w.cell? ⟨b, o, none⟩ := World.cell?_of_block (a := ⟨b, o, none⟩) (h b hb hv)
theorem Frm.bys {w W : World} {v u : Value} {d : List B} (h : Frm w W v) (hs : w.heap.size ≤ W.heap.size) (hu : BysB w u d) (hne : ∀ a l c, u = .slice (some a) l c → 0 < d.length → v.ownBlock ≠ some a.block) : BysB W u d := by
 obtain ⟨⟨ao, cap, rfl, hl, hc, hz⟩, h2, h3⟩ := hu
 refine ⟨⟨ao, cap, rfl, hl, fun j hj => ?_, hz⟩, h2, h3⟩
 obtain ⟨b, off, e, hb, hcl⟩ := hc j hj
 subst e
 exact ⟨b, off, rfl, by omega, (h.cell hb (hne _ _ _ rfl (by rw [bl_len] at hj; omega))).trans hcl⟩
theorem wp_append_nx {P : Program} {w : World} {o : Oper} {a : Act} {K : Act → World → Prop} {Q : Exit → Act → World → Prop} (s x : Operand) (t : TypeId)
 (ho : o.op = .call { callee := .builtin .append, args := #[s, x], argTypes := #[t, t] })
 (base : Nat) (e : TypeId) (i : TypeInfo) (z : Value) (size bytes : Nat) (ht : P.underlying t = some (.slice e)) (hi : P.info? e = some i) (hz : i.zero = some z)
 (hsize : i.size = size) (hby : i.bytes = bytes) (hzs : z.cells.size = size) (hsz : 0 < size)
 (v : Value) (n : Nat) (xs : List Value) (hs : a.eval s = v) (hown : w.ownsRow base e size v n xs)
 (ad : Addr) (m c : Nat) (news : List Value) (hx : a.eval x = .slice (some ad) m c) (hl : news.length = m * size) (hnews : ∀ j u, news[j]? = some u → w.cell? (ad.add j) = some u) (h1 : ∀ u ∈ news, u.oneCell' = true)
 (h63 : n + m ≤ maxLen) (hbytes : (n + m) * bytes ≤ 140737488355328) (hbase : base ≤ w.heap.size)
 (h : ∀ v' w', w'.ownsRow base e size v' (n + m) (xs ++ news) → w.grownBy w' v.ownBlock → Nx w v v' → K (a.put o.dst v') w') : o.wp P a w K Q := by
 obtain ⟨v', w', hr, h2, h3, h4⟩ := run_append_own (P := P) w base t o.type e i z size bytes ht hi hz hsize hby hzs hsz _ n xs hown ad m c news hl hnews h1 h63 hbytes hbase
 have key : Nx w v v' := by
  rcases hown.2 with ⟨rfl, hn0⟩ | ⟨g1, cap1, cur, rfl, hbg, hg, hnc, hcm, hcs, htake⟩
  ·have hown2 : w.ownsRow w.heap.size e size (.slice none 0 0) n xs := ⟨hown.1, .inl ⟨rfl, hn0⟩⟩
   obtain ⟨v2, w2, hr2, g2, _, g4⟩ := run_append_own (P := P) w w.heap.size t o.type e i z size bytes ht hi hz hsize hby hzs hsz _ n xs hown2 ad m c news hl hnews h1 h63 hbytes (Nat.le_refl _)
   have he := hr.symm.trans hr2
   injection he with e1 e2
   subst e1
   rcases g2.2 with ⟨hv, _⟩ | ⟨g, cap, _, hv, hbg, _⟩
   ·exact .inl (by rw [hv])
   ·exact .inr ⟨g, by rw [hv]; rfl, hbg⟩
  ·by_cases hroom : n + m ≤ cap1
   ·have hr2 := run_append_room (P := P) w t o.type e i ht hi g1 n cap1 cur hg ad m c news (by rw [hsize]; exact hl) hnews h1 hroom (by rw [hsize, hl, hcs, ← Nat.add_mul]; exact Nat.mul_le_mul_right _ hroom)
    have he := hr.symm.trans hr2
    injection he with e1 e2
    exact .inl (by rw [e1]; rfl)
   ·have holds : ∀ j u, xs[j]? = some u → w.cell? ((⟨g1, 0, none⟩ : Addr).add j) = some u := hown.cells (g := g1) rfl
    have hr2 := run_append_grow (P := P) w t o.type e i z ht hi hz ⟨g1, 0, none⟩ n cap1 xs (by rw [hsize]; exact hown.1) holds ad m c news (by rw [hsize]; exact hl) hnews (by omega) (by simp only [maxLen] at h63; omega) (growslice_fits (by omega) (by rw [hby]; exact hbytes))
    have he := hr.symm.trans hr2
    injection he with e1 e2
    exact .inr ⟨w.heap.size, by rw [e1]; rfl, Nat.le_refl _⟩
 unfold Oper.wp execOp
 simp only [ho, resolve, invoke, builtin, Sem.run_bind, Sem.run_pure, Result.andThen_ok, List.map_toArray, List.map_cons, List.map_nil, hs, hx, hr]
 exact h v' w' h2 h3 key
theorem wpList_append_N {w : World} {ops : Array Oper} {rest : List Oper} {o : Oper} {a : Act} {Q : Exit → Act → World → Prop} (hgd : o.guard = none) (s x : Operand) (ho : o.op = .call { callee := .builtin .append, args := #[s, x], argTypes := #[22, 22] }) (base : Nat) (v : Value) (d : List B) (hs : a.eval s = v) (hO : Own w base v d) (y : Value) (e : List B) (hx : a.eval x = y) (hE : BysB w y e) (hlen : d.length + e.length ≤ 140737488355328) (hbase : base ≤ w.heap.size)
 (h : ∀ v' w', Own w' base v' (d ++ e) → w.grownBy w' v.ownBlock → Nx w v v' → wpList Tryz.prog ops Q rest (a.put o.dst v') w') : wpList Tryz.prog ops Q (o :: rest) a w := by
 refine wpList_plain hgd fun _ hK => ?_
 obtain ⟨i0, hi, hz0, hz1, hz2⟩ := info8
 obtain ⟨⟨ao, cap, rfl, _, hc, _⟩, _, hnil⟩ := hE
 rw [bl_len] at hx hnil hc
 have hfin : ∀ v' w', w'.ownsRow base 5 1 v' (d.length + e.length) ((bl d).map (Value.int .u8) ++ (bl e).map (Value.int .u8)) → w.grownBy w' v.ownBlock → Nx w v v' → wpList Tryz.prog ops Q rest (a.put o.dst v') w' := fun v' w' h1 h2 h3 => h v' w' (by
  unfold Own
  rw [List.length_append, bl, List.map_append, List.map_append]
  exact h1) h2 h3
 cases ao with
 | some ad =>
  refine wp_append_nx s x 22 ho base 5 i0 (.int .u8 0) 1 1 Tryz.underlying22 hi hz0 hz1 hz2 rfl (by decide) v d.length ((bl d).map (Value.int .u8)) hs hO ad e.length cap ((bl e).map (Value.int .u8)) hx (by rw [List.length_map, bl_len, Nat.mul_one]) (fun j u hu => ?_) (ints_one .u8 _) (by unfold maxLen; omega) (by omega) hbase (fun v' w' h2 h3 h4 => hK _ _ (hfin v' w' h2 h3 h4))
  rw [List.getElem?_map] at hu
  obtain ⟨z, hz, rfl⟩ := Option.map_eq_some_iff.1 hu
  have hj : j < e.length := by have := (List.getElem?_eq_some_iff.1 hz).1; rwa [bl_len] at this
  obtain ⟨b, off, he, _, hcell⟩ := hc j hj
  obtain rfl := Option.some.inj he
  rw [addr_add, hcell, List.getD_eq_getElem?_getD, hz]
  rfl
 | none =>
  have hn0 : e.length = 0 := Nat.eq_zero_of_not_pos (fun h0 => by obtain ⟨b, off, he, _⟩ := hc 0 h0; cases he)
  obtain rfl := hnil _ _ _ rfl rfl
  have he0 : e = [] := List.length_eq_zero_iff.1 hn0
  subst he0
  have hrun := run_append_owned_none (P := Tryz.prog) w base 22 o.type 5 i0 1 Tryz.underlying22 hi _ d.length _ hO
  unfold Oper.wp
  simp [execOp, ho, resolve, invoke, builtin, hs, hx, hrun, Result.andThen]
  have h_ := hfin v w (by simpa [bl, Own] using hO) (World.grownBy.refl _ _) (Nx.refl _ _)
  exact hK _ _ h_
set_option maxRecDepth 100000 in
set_option maxHeartbeats 4000000 in
theorem a_addNumberN (d : List B) (n : Nat) (hn : n < 18446744073709551616) (base : Nat) (w : World) (v : Value) (hO : Own w base v d) (hb : base ≤ w.heap.size) (hl : d.length + 10 ≤ 140737488355328) : Calls Tryz.prog 55 #[v, .int .u64 (n : Int)] w fun e w' => ∃ u, e = .returned u ∧ (Own w' base u (d ++ en n) ∧ Frm w w' v ∧ Nx w v u) ∧ Below base w w' := by
 obtain ⟨ao, ac, hV⟩ := slen_own hO
 subst hV
 obtain ⟨V0, hV0⟩ : ∃ V0, Value.slice ao d.length ac = V0 := ⟨_, rfl⟩
 have hten := en_ten hn
 go_enter Tryz.func55, Tryz.ntmps55
 go_wp2
 go_loopw [0, 1] (fun s m wr => ∃ (k : Nat) (c : List B) (ao : Option Addr) (ac : Nat), m = .int .u64 (k : Int) ∧ k ≤ n ∧ en n = c ++ en k ∧ s = .slice ao (d ++ c).length ac ∧ Own wr base (.slice ao (d ++ c).length ac) (d ++ c) ∧ (Frm w wr V0 ∧ Nx w V0 (.slice ao (d ++ c).length ac)) ∧ Below base w wr) (fun _ m _ => (intOf m).toNat)
 case atStart => exact ⟨n, [], ao, ac, rfl, Nat.le_refl _, rfl, by simp, by simpa using hO, ⟨Frm.refl _ _, by simpa [hV0] using Nx.refl w V0⟩, Below.refl _ _⟩
 case round =>
  clear hO
  obtain ⟨k, c, ao, ac, rfl, hkn, he, rfl, hO, ⟨hF, hN⟩, hw⟩ := hrel
  have hws := hw.size
  have hcl : (d ++ c).length + (en k).length ≤ d.length + 10 := by
   have := congrArg List.length he
   rw [List.length_append] at *
   omega
  by_cases h : 128 ≤ k
  ·have hd : decide ((k : Int) ≥ 128) = true := by simp; omega
   have hek := en_hi (n := k) (by omega)
   rw [hek, List.length_cons] at hcl
   rw [hek] at he
   replace he := hide he
   generalize hL : d ++ c = L at *
   go_wp2_with (at_builtin; refine wpList_append_N rfl (.tmp 9) (.tmp 13) rfl base _ L rfl (own_alloc hO _) _ [BitVec.ofNat 8 (k % 128 + 128)] rfl ?hE (by simp only [List.length_singleton]; omega) (by rw [size_alloc1]; omega) ?_)
   case hE =>
    rw [by_hi]
    exact bys_one _ _
   intro v2 w2 hO2 hgr hnx
   replace hnx := hnx.unalloc
   have hF2 := (hF.alloc hws _).step (by rw [size_alloc1]; omega) hN hgr
   have hN2 := hN.trans hws hnx
   clear hF hN hnx
   have hw2 : Below base w w2 := (hw.alloc (by omega) _).grown hgr (by rw [size_alloc1]; omega) (own_low hO)
   obtain ⟨ao2, ac2, rfl⟩ := slen_own hO2
   clear hgr hO hw hek
   go_wp2
   refine ⟨⟨k / 128, c ++ [BitVec.ofNat 8 (k % 128 + 128)], ao2, ac2, by congr 1, by omega, by rw [he.out]; simp, by rw [← List.append_assoc, hL], by rw [← List.append_assoc, hL]; exact hO2, ⟨hF2, by rw [← List.append_assoc, hL]; exact hN2⟩, hw2⟩, ?_⟩
   simp [intOf]; omega
  ·have hd : decide ((k : Int) ≥ 128) = false := by simp; omega
   have hek := en_lo (n := k) (by omega)
   rw [hek, List.length_singleton] at hcl
   rw [hek] at he
   replace he := hide he
   generalize hL : d ++ c = L at *
   go_wp2_with (at_builtin; refine wpList_append_N rfl (.tmp 15) (.tmp 18) rfl base _ L rfl (own_alloc hO _) _ [BitVec.ofNat 8 k] rfl ?hE (by simp only [List.length_singleton]; omega) (by rw [size_alloc1]; omega) ?_)
   case hE =>
    first | rw [by_lo (by omega)] | rw [by_lo' (by omega)]
    exact bys_one _ _
   intro v2 w2 hO2 hgr hnx
   replace hnx := hnx.unalloc
   have hF2 := (hF.alloc hws _).step (by rw [size_alloc1]; omega) hN hgr
   have hN2 := hN.trans hws hnx
   clear hF hN hnx
   have hw2 : Below base w w2 := (hw.alloc (by omega) _).grown hgr (by rw [size_alloc1]; omega) (own_low hO)
   obtain ⟨ao2, ac2, rfl⟩ := slen_own hO2
   clear hgr hO hw hek
   go_wp2
   go_ret
   exact ⟨_, rfl, ⟨by rw [he.out, ← List.append_assoc, hL]; exact hO2, by rw [hV0]; exact hF2, by rw [hV0]; exact hN2⟩, hw2⟩
theorem fx_snoc : ∀ (k n : Nat), fx (k + 1) n = fx k n ++ [BitVec.ofNat 8 (n / 256 ^ k % 256)]
 | 0, n => by rw [fx, fx, fx, Nat.pow_zero, Nat.div_one]; rfl
 | k + 1, n => by
  rw [fx, fx_snoc k (n / 256), fx, List.cons_append, Nat.div_div_eq_div_mul, Nat.pow_succ, Nat.mul_comm 256]
theorem by_mod (n : Nat) : (n : Int) % 256 = bv (BitVec.ofNat 8 (n % 256)) := by
 rw [bv, BitVec.toNat_ofNat]; omega
theorem by_shr (n j : Nat) : (n : Int) / 2 ^ (8 * j) % 256 = bv (BitVec.ofNat 8 (n / 256 ^ j % 256)) := by
 have h : (2 : Int) ^ (8 * j) = ((256 ^ j : Nat) : Int) := by
  rw [show (256 : Nat) = 2 ^ 8 from rfl, ← Nat.pow_mul]
  simp
 rw [h, ← by_mod, ← Int.natCast_ediv]
set_option maxRecDepth 100000 in
set_option maxHeartbeats 2000000 in
theorem a_addFixedN (d : List B) (n k : Nat) (hk : k ≤ 8) (base : Nat) (w : World) (v : Value) (hO : Own w base v d) (hb : base ≤ w.heap.size) (hl : d.length + 10 ≤ 140737488355328) : Calls Tryz.prog 152 #[v, .int .u64 (n : Int), .int .i64 (k : Int)] w fun e w' => ∃ u, e = .returned u ∧ (Own w' base u (d ++ fx k n) ∧ Frm w w' v ∧ Nx w v u) ∧ Below base w w' := by
 obtain ⟨ao, ac, hV⟩ := slen_own hO
 subst hV
 obtain ⟨V0, hV0⟩ : ∃ V0, Value.slice ao d.length ac = V0 := ⟨_, rfl⟩
 go_enter Tryz.func152, Tryz.ntmps152
 go_wp2_with (fail)
 go_loopw [0, 9] (fun s i wr => ∃ (j : Nat) (ao : Option Addr) (ac : Nat), j ≤ k ∧ i = .int .i64 (j : Int) ∧ s = .slice ao (d.length + j) ac ∧ Own wr base (.slice ao (d.length + j) ac) (d ++ fx j n) ∧ (Frm w wr V0 ∧ Nx w V0 (.slice ao (d.length + j) ac)) ∧ Below base w wr) (fun _ i _ => k - (intOf i).toNat)
 case atStart => exact ⟨0, ao, ac, by omega, rfl, rfl, by rw [fx, List.append_nil]; exact hO, ⟨Frm.refl _ _, by rw [Nat.add_zero, hV0]; exact Nx.refl w V0⟩, Below.refl _ _⟩
 case round =>
  clear hO
  obtain ⟨j, ao, ac, hj, rfl, rfl, hO, ⟨hF, hN⟩, hw⟩ := hrel
  have hws := hw.size
  by_cases hlt : j < k
  ·have hd : decide ((j : Int) < (k : Int)) = true := by simp; omega
   have hsn : Hid (d ++ fx (j + 1) n = (d ++ fx j n) ++ [BitVec.ofNat 8 (n / 256 ^ j % 256)]) := hide (by rw [fx_snoc, List.append_assoc])
   have hll : (d ++ fx j n).length = d.length + j := by rw [List.length_append, fx_len]
   go_wp2_with (at_builtin; suffices h9 : True ∧ _ from h9.2)
   refine ⟨trivial, ?_⟩
   refine wpList_append_N rfl (.tmp 12) (.tmp 18) rfl base _ (d ++ fx j n) rfl (own_alloc hO _) _ [BitVec.ofNat 8 (n / 256 ^ j % 256)] rfl (by rw [by_shr]; exact bys_one _ _) (by simp only [List.length_singleton]; omega) (by rw [size_alloc1]; omega) ?_
   intro v2 w2 hO2 hgr hnx
   replace hnx := hnx.unalloc
   have hF2 := (hF.alloc hws _).step (by rw [size_alloc1]; omega) hN hgr
   have hN2 := hN.trans hws hnx
   clear hF hN hnx
   have hw2 : Below base w w2 := (hw.alloc (by omega) _).grown hgr (by rw [size_alloc1]; omega) (own_low hO)
   rw [← hsn.out] at hO2
   obtain ⟨ao2, ac2, hv2⟩ := slen_own hO2
   have hl2 : (d ++ fx (j + 1) n).length = d.length + (j + 1) := by rw [List.length_append, fx_len]
   rw [hl2] at hv2
   subst hv2
   clear hgr hO hw hll hl2
   go_wp2_with (fail)
   refine ⟨⟨j + 1, ao2, ac2, by omega, by go_num, rfl, hO2, ⟨hF2, hN2⟩, hw2⟩, ?_⟩
   simp [intOf]; omega
  ·obtain rfl : j = k := by omega
   have hd : decide ((j : Int) < (j : Int)) = false := by simp
   go_wp2_with (fail)
   go_ret
   exact ⟨_, rfl, ⟨hO, by rw [hV0]; exact hF, by rw [hV0]; exact hN⟩, hw⟩
set_option maxHeartbeats 1000000 in
theorem a_addItemN (d p : List B) (base : Nat) (w : World) (v u : Value) (hO : Own w base v d) (hu : BysB w u p) (hbl : ∀ V, Frm w V v → w.heap.size ≤ V.heap.size → BysB V u p) (hb : base ≤ w.heap.size) (hl : d.length + (itm p).length ≤ 140737488355000) : Calls Tryz.prog 153 #[v, u] w fun e w' => ∃ x, e = .returned x ∧ (Own w' base x (d ++ itm p) ∧ Frm w w' v ∧ Nx w v x) ∧ Below base w w' := by
 have hpl := hu.2.1
 have hlen := itm_len p
 obtain ⟨uo, uc, rfl⟩ := hu.form
 have cN := a_addNumberN d p.length (by omega) base w v hO hb (by have := en_pos p.length; have := en_ten (n := p.length) (by omega); omega)
 go_enter Tryz.func153, Tryz.ntmps153
 go_wp2_with (fail)
 refine cN.mono ?_
 rintro e_ w1 ⟨x, rfl, ⟨hx, hF, hN⟩, hb1⟩
 clear cN
 have hE := hbl w1 hF hb1.size
 have hs1 := hb1.size
 have hx2 : (d ++ en p.length).length + p.length ≤ 140737488355328 := by rw [List.length_append]; omega
 have hfin : (d ++ en p.length) ++ p = d ++ itm p := by rw [itm, List.append_assoc]
 generalize hD : d ++ en p.length = D at *
 go_wp2_with (at_builtin; refine wpList_append_N rfl _ _ rfl base _ D rfl hx _ p rfl hE hx2 (by omega) ?_)
 intro v2 w2 hO2 hgr hnx
 have hF2 := hF.step hs1 hN hgr
 have hN2 := hN.trans hs1 hnx
 clear hF hN hnx
 have hw2 : Below base w w2 := hb1.grown hgr (by omega) (own_low hx)
 clear hgr hx hb1
 go_wp2
 go_ret
 exact ⟨v2, rfl, ⟨hO2, hF2, hN2⟩, hw2⟩
end Go.Proofs.YtjoohgkgkabbpaaGreatDoor

