import Derived.Test.YtlbcdjflcghkeaaDoorProg
import Derived.WalkKit
import Derived.WalkSpells
import Derived.WalkLawsBesides
import Derived.Lib.QuietBelow
import Derived.BigQuiet
import Derived.Test.YtlbcdjflcghkeaaDoorKa
import Derived.Test.YtlbcdjflcghkeaaDoorSgm
namespace Go.Proofs.YtlbcdjflcghkeaaDoor
set_option maxRecDepth 100000
open Go Go.RowKit Go.Sort
attribute [local go_sem] setCell_drewN alloc_drewN

theorem foldl_ovw (off : Nat) : ∀ (vs : List Value) (k : Nat) (cs : Array Value), (vs.zipIdx k).foldl (fun cs (x : Value × Nat) => cs.setIfInBounds (off + x.2) x.1) cs = ovw cs (off + k) vs
  | [], _, _ => rfl
  | v :: r, k, cs => by
    rw [List.zipIdx_cons, List.foldl_cons, foldl_ovw off r (k + 1), ovw]
    rfl
theorem fill_agg (place : Nat → Option (Nat × Nat)) (cs a : Array Value) (i off : Nat) (rest : List (Nat × Value)) (hp : place i = some (off, a.size)) (hf : off + a.size ≤ cs.size) : Instr.fill place cs ((i, .agg a) :: rest) = Instr.fill place (ovw cs off a.toList) rest := by
  rw [Instr.fill, hp]
  have h1 : (Value.agg a).cells = a := rfl
  simp only [h1]
  rw [if_neg (by simp; omega)]
  congr 1
  have h2 := foldl_ovw off a.toList 0 cs
  rw [Nat.add_zero] at h2
  rw [← h2, ← Array.foldl_toList, Array.toList_zipIdx]
theorem ovw_size : ∀ (vs : List Value) (cs : Array Value) (o : Nat), (ovw cs o vs).size = cs.size
  | [], _, _ => rfl
  | v :: r, cs, o => by rw [ovw, ovw_size r, Array.size_setIfInBounds]
theorem z73 : (hcells (zr 8) (zr 64) 0).size = 73 := rfl
end Go.Proofs.YtlbcdjflcghkeaaDoor

namespace Go.Proofs.YtlbcdjflcghkeaaDoor
set_option maxRecDepth 100000
open Go Go.RowKit Go.Sort
attribute [local go_sem] setCell_drewN alloc_drewN

theorem grownT {a b c : World} {g : Nat} (h : a.grownBy b (some g)) (hb : b.grownBy c (some g)) : a.grownBy c (some g) :=
  ⟨hb.os.trans h.os, hb.tape.trans h.tape, hb.output.trans h.output, Nat.le_trans h.size hb.size, fun k hk hn => (hb.block k (Nat.lt_of_lt_of_le hk h.size) hn).trans (h.block k hk hn)⟩
theorem grown_setRow_hi {a b : World} {g n : Nat} (cs : Array Value) (h : a.grownBy b (some g)) (hn : a.heap.size ≤ n) : a.grownBy (b.setRow n cs) (some g) := by
  refine ⟨h.os, h.tape, h.output, ?_, fun k hk hne => ?_⟩
  · have e : (b.setRow n cs).heap.size = b.heap.size := by simp
    rw [e]; exact h.size
  · rw [setRow_other b n k cs (by omega)]
    exact h.block k hk hne
theorem Bys.grown {W W' : World} {v : Value} {bs : List Int} {g : Nat} (h : Bys W v bs) (hb : W.grownBy W' (some g)) (hne : ∀ a l c, v = .slice (some a) l c → 0 < l → a.block ≠ g) : Bys W' v bs := by
  obtain ⟨ao, cap, rfl, hl, hc, hz⟩ := h
  refine ⟨ao, cap, rfl, hl, fun j hj => ?_, hz⟩
  obtain ⟨b, off, rfl, h1, h2⟩ := hc j hj
  have hn : b ≠ g := hne ⟨b, off, none⟩ _ _ rfl (by omega)
  exact ⟨b, off, rfl, Nat.lt_of_lt_of_le h1 hb.size, hb.cell h2 (by intro e; injection e with e; exact hn e)⟩
theorem bys_ne {W : World} {v : Value} {bs : List Int} (h : Bys W v bs) : ∀ a l c, v = .slice (some a) l c → 0 < l → a.block < W.heap.size := by
  rintro a l c rfl hl
  obtain ⟨_, _, e, _, hc, _⟩ := h
  injection e with e1 e2 e3
  obtain ⟨b0, off, e, hb, _⟩ := hc 0 (by omega)
  rw [e] at e1
  injection e1 with e1
  rw [e1]
  exact hb
theorem bys_nil (W : World) : Bys W (.slice none 0 0) [] := ⟨none, 0, rfl, by decide, fun j hj => by simp at hj, by simp⟩
theorem bys_bd {W : World} {v : Value} {bs : List Int} (h : Bys W v bs) : ∀ z ∈ bs, 0 ≤ z ∧ z < 256 := by
  obtain ⟨_, _, _, _, _, h⟩ := h; exact h
theorem bK (cs : Array Value) (W : World) : (Instr.box 23 (.agg cs)).run Tryd.prog W = .ok (.pointer (some ⟨W.heap.size, 0, none⟩)) (W.alloc (.cells cs 23)) := by kernel_rfl
/-- What Expand has written, k pieces behind it. -/
def xout (key info : List Int) (n k : Nat) : List Int := (tall key info k).take n ++ zr (n - 32 * k)
theorem xout_len (key info : List Int) (n k : Nat) : (xout key info n k).length = n := by
  rw [xout, List.length_append, List.length_take, tall_len, zr_len]; omega
theorem xout_step (key info : List Int) (n k : Nat) (h : 32 * k < n) : (xout key info n k).take (32 * k) ++ (tp key info (k + 1)).take (n - 32 * k) ++ (xout key info n k).drop (32 * k + ((tp key info (k + 1)).take (n - 32 * k)).length) = xout key info n (k + 1) := by
  have hl := tall_len key info k
  have hp := tp_len key info k
  have e1 : (tall key info k).take n = tall key info k := List.take_of_length_le (by omega)
  have e2 : (xout key info n k).take (32 * k) = tall key info k := by rw [xout, e1, List.take_left' hl]
  have e3 : ∀ m, (xout key info n k).drop (32 * k + m) = zr (n - 32 * k - m) := fun m => by
    rw [xout, e1, ← hl, ← List.drop_drop, List.drop_left, zr_drop]
  rw [e2, e3, xout, tall, List.take_append, e1, hl, List.length_take, hp]
  congr 2
  omega
theorem xout_end (key info : List Int) (n k : Nat) (hk : k ≤ (n + 31) / 32) (h : ¬ 32 * k < n) : xout key info n k = xpd key info n := by
  obtain rfl : k = (n + 31) / 32 := by omega
  rw [xout, xpd, show n - 32 * ((n + 31) / 32) = 0 by omega]
  simp [zr]
/-- What an answer of Expand or Derive is. -/
def XAns (W : World) (lo : Nat) (v : Value) (key info : List Int) (n : Int) : Prop := (∃ (m : Nat) (g : Nat), n = (m : Int) ∧ m ≤ 8160 ∧ v = .tuple #[.slice (some ⟨g, 0, none⟩) m m, .int .i64 0] ∧ lo ≤ g ∧ W.heap[g]? = some (.cells (irow .u8 (xpd key info m)) 5 (0, 0))) ∨ ((n < 0 ∨ 8160 < n) ∧ v = .tuple #[.slice none 0 0, .int .i64 (if n < 0 then 1 else 2)])
end Go.Proofs.YtlbcdjflcghkeaaDoor

namespace Go.Proofs.YtlbcdjflcghkeaaDoor
set_option maxRecDepth 100000
open Go Go.RowKit Go.Sort
attribute [local go_sem] setCell_drewN alloc_drewN

theorem wpList_append_own_want {P : Program} (w : World) {ops : Array Oper} {rest : List Oper} {o : Oper} {a : Act} {Q : Exit → Act → World → Prop} (hw : Region.wanted o (yielded ops a.tmps) = true) (s x : Operand) (t : TypeId)
    (ho : o.op = .call { callee := .builtin .append, args := #[s, x], argTypes := #[t, t] })
    (base : Nat) (e : TypeId) (i : TypeInfo) (z : Value) (ht : P.underlying t = some (.slice e)) (hi : P.info? e = some i) (hz : i.zero = some z)
    (hsize : i.size = 1) (hby : i.bytes = 1) (hzs : z.cells.size = 1)
    (v : Value) (n : Nat) (xs : List Value) (hs : a.eval s = v) (hown : w.ownsRow base e 1 v n xs)
    (ao : Option Addr) (m c : Nat) (news : List Value) (hx : a.eval x = .slice ao m c) (hl : news.length = m * 1) (hnone : ao = none → m = 0 ∧ c = 0) (hnews : ∀ ad, ao = some ad → ∀ j u, news[j]? = some u → w.cell? (ad.add j) = some u) (h1 : ∀ u ∈ news, u.oneCell' = true)
    (h63 : n + m ≤ maxLen) (hbytes : (n + m) * 1 ≤ 140737488355328) (hbase : base ≤ w.heap.size)
    (h : ∀ v' w', w'.ownsRow base e 1 v' (n + m) (xs ++ news) → w.grownBy w' v.ownBlock → wpList P ops Q rest (a.put o.dst v') w') : wpList P ops Q (o :: rest) a w := by
  refine BigFrame.wpList_want hw fun K hK' => ?_
  cases ao with
  | some ad => exact wp_append_own w s x t ho base e i z 1 1 ht hi hz hsize hby hzs (by decide) v n xs hs hown ad m c news hx hl (hnews ad rfl) h1 h63 hbytes hbase (fun v' w' h2 h3 _ => hK' _ _ (h v' w' h2 h3))
  | none =>
    obtain ⟨rfl, rfl⟩ := hnone rfl
    have hn0 : news = [] := List.eq_nil_of_length_eq_zero (by simpa using hl)
    subst hn0
    have hrun := run_append_owned_none (P := P) w base t o.type e i 1 ht hi _ n xs hown
    unfold Oper.wp
    simp [execOp, ho, resolve, invoke, builtin, hs, hx, hrun, Result.andThen]
    exact hK' _ _ (by simpa using h v w (by simpa using hown) (World.grownBy.refl _ _))
/-- Pieces of bytes, as they lie in a world. -/
def Pcs (W : World) (v : Value) (ps : List (List Int)) : Prop := ∃ ao cap, v = .slice ao ps.length cap ∧ ps.length ≤ 9223372036854775807 ∧ ∀ i, i < ps.length → ∃ b off u uc, ao = some ⟨b, off, none⟩ ∧ b < W.heap.size ∧ W.cell? ⟨b, off + i, none⟩ = some (.slice u (ps.getD i []).length uc) ∧ Bys W (.slice u (ps.getD i []).length uc) (ps.getD i []) ∧ (u = none → uc = 0)
/-- Bools, as they lie in a world. -/
def Bls (W : World) (v : Value) (qs : List Bool) : Prop := ∃ ao cap, v = .slice ao qs.length cap ∧ qs.length ≤ 9223372036854775807 ∧ ∀ i, i < qs.length → ∃ b off, ao = some ⟨b, off, none⟩ ∧ b < W.heap.size ∧ W.cell? ⟨b, off + i, none⟩ = some (.bool (qs.getD i false))
def flat (ps : List (List Int)) (k : Nat) : List Int := (ps.take k).flatten
theorem flat_next (ps : List (List Int)) (k : Nat) (hk : k < ps.length) : flat ps (k + 1) = flat ps k ++ ps.getD k [] := by
  unfold flat
  rw [List.take_add_one, List.flatten_append, List.getElem?_eq_getElem hk, List.getD_eq_getElem?_getD, List.getElem?_eq_getElem hk]
  simp
theorem flat_all (ps : List (List Int)) : flat ps ps.length = ps.flatten := by unfold flat; rw [List.take_length]
theorem flat_len (ps : List (List Int)) (k : Nat) : (flat ps k).length ≤ ps.flatten.length := by
  have h := congrArg List.flatten (List.take_append_drop k ps)
  rw [List.flatten_append] at h
  have := congrArg List.length h
  rw [List.length_append] at this
  unfold flat
  omega
theorem nilN (w : World) : BysN w (.slice none 0 0) [] := ⟨⟨none, 0, rfl, by decide, fun j hj => by simp at hj, by simp⟩, by decide, fun a l c h _ => by cases h; rfl⟩
theorem bys_none3 {W : World} {u : Option Addr} {uc : Nat} {bs : List Int} (hB : Bys W (.slice u bs.length uc) bs) (h : u = none → uc = 0) : u = none → bs.length = 0 ∧ uc = 0 := bys_none hB (fun a l c e ha => by injection e with e1 e2 e3; subst e1; rw [← e3]; exact h ha)
end Go.Proofs.YtlbcdjflcghkeaaDoor

namespace Go.Proofs.YtlbcdjflcghkeaaDoor
set_option maxRecDepth 100000
open Go Go.RowKit Go.Sort
attribute [local go_sem] setCell_drewN alloc_drewN

theorem zr_get (n j : Nat) : (zr n).getD j 0 = 0 := by
  rw [List.getD_eq_getElem?_getD]
  simp only [zr, List.getElem?_replicate]
  split <;> rfl
theorem getD_set_self (l : List Int) (j : Nat) (z : Int) (h : j < l.length) : (l.set j z).getD j 0 = z := by
  rw [List.getD_eq_getElem?_getD, List.getElem?_set_self h]; rfl
theorem cell_other (w : World) (a b : Addr) (v : Value) (h : b.block ≠ a.block) : (w.setCell a v).cell? b = w.cell? b := by
  simp only [World.cell?]
  rw [heap_setCell_other w a b.block v h]
end Go.Proofs.YtlbcdjflcghkeaaDoor
