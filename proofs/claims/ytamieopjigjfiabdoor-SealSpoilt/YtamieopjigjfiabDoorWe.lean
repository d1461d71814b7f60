import Derived.Test.YtamieopjigjfiabDoorWa
import Derived.OwnWalk
import Derived.Test.YtamieopjigjfiabDoorWc
namespace Go.Proofs.YtamieopjigjfiabDoor
set_option maxRecDepth 100000
open Go Go.RowKit Go.Sort
attribute [local go_sem] setCell_drewN alloc_drewN

/-- How long a slice is. -/
def slen5 : Value → Nat
  | .slice _ l _ => l
  | _ => 0
theorem slen_own5 {W : World} {b : Nat} {T : TypeId} {sz : Nat} {v : Value} {n : Nat} {xs : List Value} (h : W.ownsRow b T sz v n xs) : ∃ ao cap, v = .slice ao n cap := by
  obtain ⟨_, ⟨rfl, rfl⟩ | ⟨g, cap, cur, rfl, _⟩⟩ := h
  · exact ⟨_, _, rfl⟩
  · exact ⟨_, _, rfl⟩
set_option maxRecDepth 100000 in
theorem info85 : ∃ i, Tryd.prog.info? 5 = some i ∧ i.zero = some (.int .u8 0) ∧ i.size = 1 ∧ i.bytes = 1 := ⟨_, rfl, rfl, rfl, rfl⟩
theorem new_cell5 (wr : World) (x : Int) : ∀ j u, [Value.int .u8 x][j]? = some u → (wr.alloc (.cells #[.int .u8 x] 5)).cell? ((⟨wr.heap.size, 0, none⟩ : Addr).add j) = some u := by
  intro j u hu
  have hj : j = 0 := by
    have := (List.getElem?_eq_some_iff.1 hu).1
    simp at this
    exact this
  subst hj
  simp at hu
  subst hu
  rw [addr_add]
  have hg : (wr.alloc (.cells #[.int .u8 x] 5)).heap[wr.heap.size]? = some (.cells #[.int .u8 x] 5 (0, 0)) := hp1_0 wr _
  simp only [World.cell?, hg]
  rfl

/-- An append whose row is either the old one or a new block. -/
theorem wpList_append_two5 {P : Program} (w : World) {ops : Array Oper} {rest : List Oper} {o : Oper} {a : Act} {Q : Exit → Act → World → Prop} (hgd : o.guard = none) (s x : Operand) (t : TypeId)
    (ho : o.op = .call { callee := .builtin .append, args := #[s, x], argTypes := #[t, t] })
    (base : Nat) (e : TypeId) (i : TypeInfo) (z : Value) (ht : P.underlying t = some (.slice e)) (hi : P.info? e = some i) (hz : i.zero = some z)
    (hsize : i.size = 1) (hby : i.bytes = 1) (hzs : z.cells.size = 1)
    (g n cap : Nat) (xs : List Value) (hs : a.eval s = .slice (some ⟨g, 0, none⟩) n cap) (hown : w.ownsRow base e 1 (.slice (some ⟨g, 0, none⟩) n cap) n xs)
    (ad : Addr) (m c : Nat) (news : List Value) (hx : a.eval x = .slice (some ad) m c) (hl : news.length = m * 1) (hnews : ∀ j u, news[j]? = some u → w.cell? (ad.add j) = some u) (h1 : ∀ u ∈ news, u.oneCell' = true)
    (h63 : n + m ≤ maxLen) (hbytes : (n + m) * 1 ≤ 140737488355328) (hbase : base ≤ w.heap.size)
    (h : ∀ g' cap' w', w'.ownsRow base e 1 (.slice (some ⟨g', 0, none⟩) (n + m) cap') (n + m) (xs ++ news) → w.grownBy w' (some g) → (g' = g ∨ g' = w.heap.size) → wpList P ops Q rest (a.put o.dst (.slice (some ⟨g', 0, none⟩) (n + m) cap')) w') : wpList P ops Q (o :: rest) a w := by
  refine wpList_plain hgd fun K hK => ?_
  obtain ⟨v', w', hr, h2, h3, _⟩ := run_append_own (P := P) w base t o.type e i z 1 1 ht hi hz hsize hby hzs (by decide) _ n xs hown ad m c news hl hnews h1 h63 hbytes hbase
  have key : ∃ g' cap', v' = .slice (some ⟨g', 0, none⟩) (n + m) cap' ∧ (g' = g ∨ g' = w.heap.size) := by
    rcases hown.2 with ⟨hv, _⟩ | ⟨g1, cap1, cur, hv, hbg, hg, hnc, hcm, hcs, htake⟩
    · cases hv
    · cases hv
      by_cases hroom : n + m ≤ cap
      · have hr2 := run_append_room (P := P) w t o.type e i ht hi g n cap cur hg ad m c news (by rw [hsize]; exact hl) hnews h1 hroom (by rw [hsize, hl, hcs]; omega)
        have := hr.symm.trans hr2
        injection this with e1 e2
        exact ⟨g, cap, e1, .inl rfl⟩
      · have holds : ∀ j u, xs[j]? = some u → w.cell? ((⟨g, 0, none⟩ : Addr).add j) = some u := hown.cells (g := g) rfl
        have hr2 := run_append_grow (P := P) w t o.type e i z ht hi hz ⟨g, 0, none⟩ n cap xs (by rw [hsize]; exact hown.1) holds ad m c news (by rw [hsize]; exact hl) hnews (by omega) (by simp only [maxLen] at h63; omega) (growslice_fits (by omega) (by rw [hby]; exact hbytes))
        have := hr.symm.trans hr2
        injection this with e1 e2
        exact ⟨_, _, e1, .inr rfl⟩
  obtain ⟨g', cap', rfl, hgg⟩ := key
  unfold Oper.wp execOp
  simp only [ho, resolve, invoke, builtin, Sem.run_bind, Sem.run_pure, Result.andThen_ok, List.map_toArray, List.map_cons, List.map_nil, hs, hx, hr]
  exact hK _ _ (h g' cap' w' h2 h3 hgg)
theorem grown_trans5 {a b c : World} {row : Option Nat} {g : Nat} (h : a.grownBy b (some g)) (h2 : b.grownBy c row) (hr : row = none ∨ row = some g ∨ ∃ k, row = some k ∧ a.heap.size ≤ k) : a.grownBy c (some g) := by
  refine ⟨h2.os.trans h.os, h2.tape.trans h.tape, h2.output.trans h.output, Nat.le_trans h.size h2.size, fun k hk hn => ?_⟩
  have h3 := h.size
  refine (h2.block k (by omega) ?_).trans (h.block k hk hn)
  rcases hr with rfl | rfl | ⟨q, rfl, hq⟩
  · simp
  · exact hn
  · intro e; injection e with e; omega
theorem grown_setCell5 {a b : World} {g j : Nat} {v : Value} (h : a.grownBy b (some g)) : a.grownBy (b.setCell ⟨g, j, none⟩ v) (some g) := by
  refine ⟨h.os, h.tape, h.output, ?_, fun k hk hn => ?_⟩
  · have e : (b.setCell ⟨g, j, none⟩ v).heap.size = b.heap.size := by simp [World.setCell]
    rw [e]; exact h.size
  · rw [heap_setCell_other b ⟨g, j, none⟩ k v (fun e => hn (by rw [e]))]
    exact h.block k hk hn
/-- The marked room behind what is lent. -/
def marks (k : Nat) : List Int := (List.range k).map fun (i : Nat) => 171 + ((i % 60 : Nat) : Int)
theorem marks_succ (k : Nat) : marks (k + 1) = marks k ++ [171 + ((k % 60 : Nat) : Int)] := by simp [marks, List.range_succ]
theorem at_low (bs : List Int) (k : Nat) (hk : k < bs.length) : (bs ++ marks 80).getD k 0 = bs.getD k 0 := by
  simp [List.getD_eq_getElem?_getD, List.getElem?_append_left hk]
theorem at_high (bs : List Int) (k : Nat) (hk : ¬ k < bs.length) (hu : k < bs.length + 80) : (bs ++ marks 80).getD k 0 = 171 + ((k : Int) - bs.length) % 60 := by
  have : k - bs.length < 80 := by omega
  rw [List.getD_eq_getElem?_getD, List.getElem?_append_right (by omega)]
  simp [marks, this]
  omega
end Go.Proofs.YtamieopjigjfiabDoor

namespace Go.Proofs.YtamieopjigjfiabDoor
set_option maxRecDepth 100000
open Go Go.RowKit Go.Sort
attribute [local go_sem] setCell_drewN alloc_drewN

/-! The reference's Inverse, quick, spread. -/
/-- The state of quick. -/
def qst : Nat → B → B × B
  | 0, a => (1#8, a)
  | k + 1, a => (tm (qst k a).1 (tm (qst k a).2 (qst k a).2), tm (qst k a).2 (qst k a).2)
theorem qk_qst (a : B) : ∀ n k, qk n (qst k a).1 (qst k a).2 = (qst (k + n) a).1 := by
  intro n
  induction n with
  | zero => intro k; rfl
  | succ n ih =>
    intro k
    have := ih (k + 1)
    rw [qst] at this
    rw [qk, this]
    congr 2
    omega
/-- One bit of spread, and spread, as they are put together. -/
def bt (y : B) (i : Nat) : Nat → B
  | 0 => 0#8
  | j + 1 => if j = 0 ∨ 4 ≤ j then bt y i j ^^^ ((y >>> ((i + j) % 8)) &&& 1#8) else bt y i j
def rf (y : B) : Nat → B
  | 0 => 0x63#8
  | i + 1 => rf y i ^^^ (bt y i 8 <<< i)
theorem rf_spr : ∀ y : B, rf y 8 = spr y := by decide +kernel
theorem e_bit (y : B) (n : Nat) : bv y / 2 ^ n % 2 = bv ((y >>> n) &&& 1#8) := by
  unfold bv
  rw [BitVec.toNat_and, BitVec.toNat_ushiftRight, Nat.shiftRight_eq_div_pow]
  rw [show BitVec.toNat 1#8 = 1 from rfl, Nat.and_one_is_mod]
  simp
theorem e_tbit (y : B) (n : Nat) : (bv y / 2 ^ n).tmod 2 = bv ((y >>> n) &&& 1#8) := by
  rw [Int.tmod_eq_emod_of_nonneg, e_bit]
  exact Int.ediv_nonneg (bnd y).1 (Int.pow_nonneg (by decide))
theorem e_shl (c : B) (n : Nat) : bv c * 2 ^ n % 256 = bv (c <<< n) := by
  unfold bv
  rw [BitVec.toNat_shiftLeft, Nat.shiftLeft_eq]
  simp
theorem sb_eq_iff (x : B) (k : Nat) (hk : k < 256) : sb (BitVec.ofNat 8 k) = x ↔ k = (bk x).toNat := by
  constructor
  · intro h
    rw [← h, bk_sb, BitVec.toNat_ofNat]; omega
  · intro h
    rw [h, BitVec.ofNat_toNat, BitVec.setWidth_eq, sb_bk]
end Go.Proofs.YtamieopjigjfiabDoor
