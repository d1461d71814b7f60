import Derived.Test.YtnbkdlfkacbfjaaProg
import Derived.WalkKit
import Derived.WalkSpells
import Derived.WalkLawsBesides
import Derived.Lib.QuietBelow
import Derived.Laws.BitsAllLaws
import Derived.BigQuiet
import Derived.WalkMore
import Derived.Test.YtnbkdlfkacbfjaaKit
import Derived.Test.YtnbkdlfkacbfjaaWk
namespace Go.Proofs.Ytnbkdlfkacbfjaa
open Go Go.RowKit Go.Sort
attribute [local go_sem] setCell_drewN alloc_drewN

/-- What reading an item comes to: its bytes, and how many bytes it takes. -/
inductive RI where
  | er (e : Int)
  | ok (p : List B) (n : Nat)
def ri (l : List B) : RI := match rd 0 l with
  | .er e => .er e
  | .ok v n => if l.length - n < v then .er 73 else .ok ((l.drop n).take v) (n + v)
/-- Split: what is left to be read, where that begins, how many items came. -/
inductive RS where
  | er (e : Int) (p : Nat)
  | ok (ps : List (List B))
def RS.cons (p : List B) : RS → RS
  | .er e q => .er e q
  | .ok l => .ok (p :: l)
def spl : Nat → Nat → Nat → List B → RS
  | 0, _, _, _ => .ok []
  | f + 1, p, c, l => if l = [] then .ok [] else if c = 4096 then .er 2 p else match ri l with
    | .er e => .er e p
    | .ok x n => (spl f (p + n) (c + 1) (l.drop n)).cons x
theorem ri_ok {l p : List B} {n : Nat} (h : ri l = .ok p n) : 0 < n ∧ n ≤ l.length ∧ n = (itm p).length ∧ l = itm p ++ l.drop n ∧ p.length ≤ l.length := by
  unfold ri at h
  cases hr : rd 0 l with
  | er e => rw [hr] at h; cases h
  | ok v m =>
    rw [hr] at h
    obtain ⟨⟨r, h1⟩, h2, h3⟩ := rd0_ok hr
    have hl := rd0_len hr
    simp only at h
    split at h
    · cases h
    · rename_i hv
      injection h with e1 e2
      have hd : l.drop m = r := by rw [h1, h2, List.drop_left]
      have hrl : v ≤ r.length := by rw [← hd, List.length_drop]; omega
      have hpl : p.length = v := by rw [← e1, hd, List.length_take]; omega
      have hit : itm p = en v ++ r.take v := by rw [itm, hpl, ← e1, hd]
      refine ⟨by omega, by omega, ?_, ?_, by rw [hpl]; omega⟩
      · rw [hit, List.length_append, List.length_take]; omega
      · rw [hit, ← e2, ← List.drop_drop, hd, List.append_assoc, List.take_append_drop]
        exact h1
theorem ri_er {l : List B} {e : Int} (h : ri l = .er e) : e = 70 ∨ e = 73 := by
  unfold ri at h
  cases hr : rd 0 l with
  | er e' => rw [hr] at h; injection h with h; subst h; exact rd_er _ _ _ hr
  | ok v m =>
    rw [hr] at h
    simp only at h
    split at h
    · injection h with h; exact .inr h.symm
    · cases h
/-- Enough steps are enough. -/
theorem spl_more : ∀ (f : Nat) (p c : Nat) (l : List B), l.length ≤ f → spl f p c l = spl l.length p c l
  | 0, p, c, l, h => by
    have : l.length = 0 := by omega
    rw [this]
  | f + 1, p, c, l, h => by
    cases hl : l.length with
    | zero =>
      have : l = [] := List.eq_nil_of_length_eq_zero hl
      subst this
      simp [spl]
    | succ g =>
      have hne : l ≠ [] := by intro e; rw [e] at hl; cases hl
      rw [spl, spl, if_neg hne, if_neg hne]
      by_cases hc : c = 4096
      · rw [if_pos hc, if_pos hc]
      · rw [if_neg hc, if_neg hc]
        cases hr : ri l with
        | er e => rfl
        | ok x n =>
          have h1 := ri_ok hr
          simp only
          rw [spl_more f _ _ (l.drop n) (by rw [List.length_drop]; omega), spl_more g _ _ (l.drop n) (by rw [List.length_drop]; omega)]
/-- What Split answers. -/
def sp (l : List B) : RS := if 4194304 < l.length then .er 2 0 else spl l.length 0 0 l
/-- c items came already. -/
def RS.after (ps : List (List B)) : RS → RS
  | .er e q => .er e q
  | .ok l => .ok (ps ++ l)
theorem after_cons (ps : List (List B)) (p : List B) (r : RS) : (r.cons p).after ps = r.after (ps ++ [p]) := by
  cases r <;> simp [RS.cons, RS.after]
theorem spl_step {p c : Nat} {l : List B} (h0 : l ≠ []) (hc : c ≠ 4096) {x : List B} {n : Nat} (hr : ri l = .ok x n) : spl l.length p c l = (spl (l.drop n).length (p + n) (c + 1) (l.drop n)).cons x := by
  obtain ⟨g, hg⟩ : ∃ g, l.length = g + 1 := ⟨l.length - 1, by have : l.length ≠ 0 := fun e => h0 (List.eq_nil_of_length_eq_zero e); omega⟩
  have h1 := ri_ok hr
  rw [hg, spl, if_neg h0, if_neg hc, hr]
  simp only
  rw [spl_more g _ _ (l.drop n) (by rw [List.length_drop]; omega)]
theorem spl_full {p : Nat} {l : List B} (h0 : l ≠ []) : spl l.length p 4096 l = .er 2 p := by
  obtain ⟨g, hg⟩ : ∃ g, l.length = g + 1 := ⟨l.length - 1, by have : l.length ≠ 0 := fun e => h0 (List.eq_nil_of_length_eq_zero e); omega⟩
  rw [hg, spl, if_neg h0, if_pos rfl]
theorem spl_er {p c : Nat} {l : List B} (h0 : l ≠ []) (hc : c ≠ 4096) {e : Int} (hr : ri l = .er e) : spl l.length p c l = .er e p := by
  obtain ⟨g, hg⟩ : ∃ g, l.length = g + 1 := ⟨l.length - 1, by have : l.length ≠ 0 := fun e => h0 (List.eq_nil_of_length_eq_zero e); omega⟩
  rw [hg, spl, if_neg h0, if_neg hc, hr]
/-- What readItem and Split hand back besides. -/
def rip (r : RI) : List B := match r with | .ok p _ => p | .er _ => []
def rie (p : Nat) (r : RI) : Int := match r with | .ok _ n => ((p + n : Nat) : Int) | .er _ => 0
def rir (r : RI) : Int := match r with | .ok _ _ => 0 | .er e => e
def spp (r : RS) : List (List B) := match r with | .ok l => l | .er _ _ => []
def spa (r : RS) : Int := match r with | .ok _ => 0 | .er _ p => (p : Int)
def spe (r : RS) : Int := match r with | .ok _ => 0 | .er e _ => e
theorem elem8 : Try.prog.underlying 22 = some (.slice (Try.prog.elem 22)) := by kernel_rfl
theorem size8 (W : World) : (sizeOf (Try.prog.elem 22)).run Try.prog W = .ok 1 W := by kernel_rfl
/-- A part of a slice. -/
def slc (ao : Option Addr) (cap m n : Nat) : Value := .slice (if cap = m then ao else ao.map (·.add (m * 1))) (n - m) (cap - m)
theorem sl_mid (ao : Option Addr) (len cap m n : Nat) (h1 : m ≤ n) (h2 : n ≤ cap) (W : World) : (Instr.sliceAt 22 (.slice ao len cap) (some (.int .i64 (m : Int))) (some (.int .i64 (n : Int))) none).run Try.prog W = .ok (slc ao cap m n) W := by
  rw [run_sliceAt_slice _ _ _ _ _ _ elem8, run_slice_lh W 22 ao len cap elem8 .i64 .i64 _ _ (by omega) (by omega) (by omega), size8]
  show Result.ok (sliced _ _ _ _ 1) W = _
  rw [Int.toNat_natCast, Int.toNat_natCast, sliced]
  rfl
theorem bysB_mid {W : World} {ao : Option Addr} {cap m n : Nat} {d : List B} (h : BysB W (.slice ao d.length cap) d) (hmn : m ≤ n) (hn : n ≤ d.length) (hc : d.length ≤ cap) : BysB W (slc ao cap m n) ((d.drop m).take (n - m)) := by
  obtain ⟨⟨ao', c', e, hl, hce, hz⟩, h2, h3⟩ := h
  rw [bl_len] at e
  cases e
  have hln : (bl ((d.drop m).take (n - m))).length = n - m := by rw [bl_len, List.length_take, List.length_drop]; omega
  rw [bl_len] at hl hce
  refine ⟨⟨if cap = m then ao else ao.map (·.add (m * 1)), cap - m, by rw [hln]; rfl, by rw [hln]; omega, fun j hj => ?_, bl_bnd _⟩, by rw [List.length_take, List.length_drop]; omega, fun a l c hv ha => ?_⟩
  · rw [hln] at hj
    obtain ⟨b2, off2, e2, hb, hcell⟩ := hce (m + j) (by omega)
    subst e2
    refine ⟨b2, off2 + m, ?_, hb, ?_⟩
    · rw [if_neg (by omega), Option.map_some, addr_add, Nat.mul_one]
    · rw [show off2 + m + j = off2 + (m + j) by omega, hcell, bl_get, bl_get, List.getD_eq_getElem?_getD, List.getD_eq_getElem?_getD, List.getElem?_take_of_lt hj, List.getElem?_drop]
  · unfold slc at hv
    injection hv with q1 q2 q3
    subst q3
    subst q1
    cases ao with
    | none =>
      have := h3 none _ _ rfl rfl
      omega
    | some x =>
      split at ha
      · cases ha
      · cases ha
theorem slc_form (ao : Option Addr) (cap m n : Nat) : ∃ u c, slc ao cap m n = .slice u (n - m) c := ⟨_, _, rfl⟩
theorem ri_of {l : List B} {v n : Nat} (h : rd 0 l = .ok v n) : ri l = if l.length - n < v then .er 73 else .ok ((l.drop n).take v) (n + v) := by
  unfold ri; rw [h]
theorem ri_of_er {l : List B} {e : Int} (h : rd 0 l = .er e) : ri l = .er e := by
  unfold ri; rw [h]
set_option maxRecDepth 100000 in
set_option maxHeartbeats 4000000 in
theorem a_readItem (d : List B) (p : Nat) (hp : p ≤ d.length) (w : World) (v : Value) (hB : BysB w v d) (hcap : ∀ a l c, v = .slice a l c → l ≤ c) : Calls Try.prog 21 #[v, .int .i64 (p : Int)] w fun e w' => ∃ u, e = .returned (.tuple #[u, .int .i64 (rie p (ri (d.drop p))), .int .i64 (rir (ri (d.drop p)))]) ∧ Own w' w.heap.size u (rip (ri (d.drop p))) ∧ Below w.heap.size w w' := by
  have hlen := hB.2.1
  have cN := a_number d p hp w v hB
  obtain ⟨ao, cap, rfl⟩ := hB.form
  have hcp := hcap _ _ _ rfl
  clear hcap
  cases hr : rd 0 (d.drop p) with
  | er e =>
    have he : (e == 0) = false := by rcases rd_er _ _ _ hr with h | h <;> subst h <;> rfl
    rw [ri_of_er hr]
    rw [hr] at cN
    simp only [rie, rir, rip]
    unfold nres at cN
    go_enter Try.func21, Try.ntmps21
    go_wp2_with (fail)
    refine cN.mono ?_
    rintro e_ w1 ⟨rfl, hb⟩
    clear cN
    go_wp2_with (fail)
    go_ret3
    exact ⟨_, rfl, own_none _ _, hb⟩
  | ok n k =>
    have hk := rd0_len hr
    rw [List.length_drop] at hk
    have hn := (rd0_ok hr).2.2
    have hri := ri_of hr
    rw [hr] at cN
    unfold nres at cN
    rw [List.length_drop, List.drop_drop] at hri
    generalize hq : p + k = q at *
    have hq2 : d.length - p - k = d.length - q := by omega
    rw [hq2] at hri
    by_cases h2 : d.length - q < n
    · rw [if_pos h2] at hri
      rw [hri]
      simp only [rie, rir, rip]
      have d2 : decide ((n : Int) > (d.length : Int) - (q : Int)) = true := by simp; omega
      clear hri hr hq2
      go_enter Try.func21, Try.ntmps21
      go_wp2_with (fail)
      refine cN.mono ?_
      rintro e_ w1 ⟨rfl, hb⟩
      clear cN
      go_wp2_with (fail)
      go_ret3
      exact ⟨_, rfl, own_none _ _, hb⟩
    · rw [if_neg h2] at hri
      rw [hri]
      simp only [rie, rir, rip]
      have d2 : decide ((n : Int) > (d.length : Int) - (q : Int)) = false := by simp; omega
      have hsl := sl_mid ao d.length cap q (q + n) (by omega) (by omega)
      rw [Int.natCast_add] at hsl
      have hbm := fun V (h : BysB V (.slice ao d.length cap) d) => bysB_mid (m := q) (n := q + n) h (by omega) (by omega) hcp
      rw [Nat.add_sub_cancel_left] at hbm
      have hfin : Hid (((p + (k + n) : Nat) : Int) = (q : Int) + (n : Int)) := hide (by omega)
      clear hri hr hq2
      generalize (d.drop q).take n = D at *
      generalize slc ao cap q (q + n) = u at *
      go_enter Try.func21, Try.ntmps21
      go_wp2_with (fail)
      refine cN.mono ?_
      rintro e_ w1 ⟨rfl, hb⟩
      clear cN
      have cC := a_clone D w1 u (hbm w1 (hB.keep hb))
      clear hbm
      go_wp2_with (fail)
      refine cC.mono ?_
      rintro e_ w2 ⟨u2, rfl, hO, hb2⟩
      clear cC
      go_wp2_with (fail)
      go_ret3
      refine ⟨u2, ?_, own_down hO hb.size, Below.after hb hb2⟩
      rw [hfin.out]
      rfl
end Go.Proofs.Ytnbkdlfkacbfjaa
