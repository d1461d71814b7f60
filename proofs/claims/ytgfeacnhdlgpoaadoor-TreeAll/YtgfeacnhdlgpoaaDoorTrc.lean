import Derived.Test.YtgfeacnhdlgpoaaDoorProg
import Derived.WalkKit
import Derived.WalkSpells
import Derived.WalkLawsBesides
import Derived.Lib.QuietBelow
import Derived.BigQuiet
import Derived.OrdersHeld
import Derived.Laws.MakeOwn
import Derived.OwnWalk
import Derived.Deep.RegionHeld3
import Derived.Deep.Cut
import Derived.Deep.CutRange
import Derived.Lib.AppendZeros
import Derived.Test.YtgfeacnhdlgpoaaDoorTrb
import Derived.Test.YtgfeacnhdlgpoaaDoorDwk
import Derived.Test.YtgfeacnhdlgpoaaDoorHz
import Derived.Test.YtgfeacnhdlgpoaaDoorHlb
namespace Go.Proofs.YtgfeacnhdlgpoaaDoor
set_option maxRecDepth 100000
open Go Go.RowKit Go.Sort
attribute [local go_sem] setCell_drewN alloc_drewN

/-- Where a walk shall stop. -/
def WpStay (p : Prop) : Prop := p
theorem wpList_stay {P : Program} {ops : Array Oper} {rest : List Oper} {a : Act} {w : World} {Q : Exit → Act → World → Prop} (h : WpStay (wpList P ops Q rest a w)) : wpList P ops Q rest a w := h
/-- v' lies where v lay, or in a new block. -/
def Nx (w : World) (v v' : Value) : Prop := v'.ownBlock = v.ownBlock ∨ ∃ k, v'.ownBlock = some k ∧ w.heap.size ≤ k
theorem Nx.refl (w : World) (v : Value) : Nx w v v := .inl rfl
theorem Nx.trans {w W : World} {v s s' : Value} (h : Nx w v s) (hs : w.heap.size ≤ W.heap.size) (h2 : Nx W s s') : Nx w v s' := by
  rcases h2 with e | ⟨k, e, hk⟩
  · rcases h with e2 | ⟨k, e2, hk⟩
    · exact .inl (e.trans e2)
    · exact .inr ⟨k, e.trans e2, hk⟩
  · exact .inr ⟨k, e, by omega⟩
theorem Nx.unalloc {W : World} {o : Obj} {s s' : Value} (h : Nx (W.alloc o) s s') : Nx W s s' := by
  rcases h with e | ⟨k, e, hk⟩
  · exact .inl e
  · exact .inr ⟨k, e, by rw [size_alloc1] at hk; omega⟩
theorem Nx.ne {w : World} {v s : Value} (h : Nx w v s) {k : Nat} (hk : k < w.heap.size) (hv : v.ownBlock ≠ some k) : s.ownBlock ≠ some k := by
  rcases h with e | ⟨k', e, hk'⟩
  · rw [e]; exact hv
  · rw [e]; intro e2; cases e2; omega
theorem wp_append_nx {P : Program} {w : World} {o : Oper} {a : Act} {K : Act → World → Prop} {Q : Exit → Act → World → Prop} (s x : Operand) (t : TypeId)
    (ho : o.op = .call { callee := .builtin .append, args := #[s, x], argTypes := #[t, t] })
    (base : Nat) (e : TypeId) (i : TypeInfo) (z : Value) (size bytes : Nat) (ht : P.underlying t = some (.slice e)) (hi : P.info? e = some i) (hz : i.zero = some z)
    (hsize : i.size = size) (hby : i.bytes = bytes) (hzs : z.cells.size = size) (hsz : 0 < size)
    (v : Value) (n : Nat) (xs : List Value) (hs : a.eval s = v) (hown : w.ownsRow base e size v n xs)
    (ad : Addr) (m c : Nat) (news : List Value) (hx : a.eval x = .slice (some ad) m c) (hl : news.length = m * size) (hnews : ∀ j u, news[j]? = some u → w.cell? (ad.add j) = some u) (h1 : ∀ u ∈ news, u.oneCell' = true)
    (h63 : n + m ≤ maxLen) (hbytes : (n + m) * bytes ≤ 140737488355328) (hbase : base ≤ w.heap.size)
    (h : ∀ v' w', w'.ownsRow base e size v' (n + m) (xs ++ news) → w.grownBy w' v.ownBlock → Nx w v v' → K (a.put o.dst v') w') : o.wp P a w K Q := by
  obtain ⟨v', w', hr, h2, h3, h4⟩ := run_append_own (P := P) w base t o.type e i z size bytes ht hi hz hsize hby hzs hsz _ n xs hown ad m c news hl hnews h1 h63 hbytes hbase
  have key : Nx w v v' := by
    rcases hown.2 with ⟨rfl, hn0⟩ | ⟨g1, cap1, cur, rfl, hbg, hg, hnc, hcm, hcs, htake⟩
    · have hown2 : w.ownsRow w.heap.size e size (.slice none 0 0) n xs := ⟨hown.1, .inl ⟨rfl, hn0⟩⟩
      obtain ⟨v2, w2, hr2, g2, _, g4⟩ := run_append_own (P := P) w w.heap.size t o.type e i z size bytes ht hi hz hsize hby hzs hsz _ n xs hown2 ad m c news hl hnews h1 h63 hbytes (Nat.le_refl _)
      have he := hr.symm.trans hr2
      injection he with e1 e2
      subst e1
      rcases g2.2 with ⟨hv, _⟩ | ⟨g, cap, _, hv, hbg, _⟩
      · exact .inl (by rw [hv])
      · exact .inr ⟨g, by rw [hv]; rfl, hbg⟩
    · by_cases hroom : n + m ≤ cap1
      · have hr2 := run_append_room (P := P) w t o.type e i ht hi g1 n cap1 cur hg ad m c news (by rw [hsize]; exact hl) hnews h1 hroom (by rw [hsize, hl, hcs, ← Nat.add_mul]; exact Nat.mul_le_mul_right _ hroom)
        have he := hr.symm.trans hr2
        injection he with e1 e2
        exact .inl (by rw [e1]; rfl)
      · have holds : ∀ j u, xs[j]? = some u → w.cell? ((⟨g1, 0, none⟩ : Addr).add j) = some u := hown.cells (g := g1) rfl
        have hr2 := run_append_grow (P := P) w t o.type e i z ht hi hz ⟨g1, 0, none⟩ n cap1 xs (by rw [hsize]; exact hown.1) holds ad m c news (by rw [hsize]; exact hl) hnews (by omega) (by simp only [maxLen] at h63; omega) (growslice_fits (by omega) (by rw [hby]; exact hbytes))
        have he := hr.symm.trans hr2
        injection he with e1 e2
        exact .inr ⟨w.heap.size, by rw [e1]; rfl, Nat.le_refl _⟩
  unfold Oper.wp execOp
  simp only [ho, resolve, invoke, builtin, Sem.run_bind, Sem.run_pure, Result.andThen_ok, List.map_toArray, List.map_cons, List.map_nil, hs, hx, hr]
  exact h v' w' h2 h3 key
/-- Keys' cells, one key behind the other. -/
def kcs (ks : List (List Int)) : List Value := ks.flatMap fun k => k.map (Value.int .u8)
theorem kcs_app (a b : List (List Int)) : kcs (a ++ b) = kcs a ++ kcs b := by simp [kcs]
theorem kcs_one (k : List Int) : kcs [k] = k.map (Value.int .u8) := by simp [kcs]
/-- A list of keys in a block of its own, from a block on. -/
def OwnK (W : World) (b : Nat) (v : Value) (ks : List (List Int)) : Prop := W.ownsRow b 24 32 v ks.length (kcs ks)
theorem OwnK.move {W W' : World} {b : Nat} {v : Value} {ks : List (List Int)} (h : OwnK W b v ks) (hm : ∀ g o, v.ownBlock = some g → W.heap[g]? = some o → W'.heap[g]? = some o) : OwnK W' b v ks := by
  obtain ⟨h1, h2⟩ := h
  refine ⟨h1, ?_⟩
  rcases h2 with h2 | ⟨g, cap, cur, rfl, hb, hg, rest⟩
  · exact .inl h2
  · exact .inr ⟨g, cap, cur, rfl, hb, hm g _ rfl hg, rest⟩
theorem OwnK.keep {W W' : World} {b : Nat} {v : Value} {ks : List (List Int)} (h : OwnK W b v ks) (hb : Below W.heap.size W W') : OwnK W' b v ks := h.move (fun _ _ _ hg => Go.Proofs.YtgfeacnhdlgpoaaDoor.keep hb hg)
theorem OwnK.lt {W : World} {b : Nat} {v : Value} {ks : List (List Int)} (h : OwnK W b v ks) : ∀ k, v.ownBlock = some k → b ≤ k ∧ k < W.heap.size := World.ownsRow.lt h
theorem infoKy : ∃ i, Tryd.prog.info? 24 = some i ∧ i.zero = some (.agg (irow .u8 (zr 32))) ∧ i.size = 32 ∧ i.bytes = 32 := ⟨_, rfl, rfl, rfl, rfl⟩
theorem len32 (l : List Int) (h : l.length = 32) : ∃ x0 x1 x2 x3 x4 x5 x6 x7 x8 x9 x10 x11 x12 x13 x14 x15 x16 x17 x18 x19 x20 x21 x22 x23 x24 x25 x26 x27 x28 x29 x30 x31, l = [x0, x1, x2, x3, x4, x5, x6, x7, x8, x9, x10, x11, x12, x13, x14, x15, x16, x17, x18, x19, x20, x21, x22, x23, x24, x25, x26, x27, x28, x29, x30, x31] := by
  match l, h with
  | [x0, x1, x2, x3, x4, x5, x6, x7, x8, x9, x10, x11, x12, x13, x14, x15, x16, x17, x18, x19, x20, x21, x22, x23, x24, x25, x26, x27, x28, x29, x30, x31], _ => exact ⟨x0, x1, x2, x3, x4, x5, x6, x7, x8, x9, x10, x11, x12, x13, x14, x15, x16, x17, x18, x19, x20, x21, x22, x23, x24, x25, x26, x27, x28, x29, x30, x31, rfl⟩
theorem run_bslK (key : List Int) (hkl : key.length = 32) (W : World) : (Instr.buildSlice 31 1 #[(0, .agg (irow .u8 key))]).run Tryd.prog W = .ok (.slice (some ⟨W.heap.size, 0, none⟩) 1 1) (W.alloc (.cells (irow .u8 key) 24)) := by
  obtain ⟨x0, x1, x2, x3, x4, x5, x6, x7, x8, x9, x10, x11, x12, x13, x14, x15, x16, x17, x18, x19, x20, x21, x22, x23, x24, x25, x26, x27, x28, x29, x30, x31, rfl⟩ := len32 key hkl
  kernel_rfl
theorem row_news {W : World} {g : Nat} {key : List Int} {t : TypeId} (rg : W.heap[g]? = some (.cells (irow .u8 key) t (0, 0))) : ∀ j x, (key.map (Value.int .u8))[j]? = some x → W.cell? ((⟨g, 0, none⟩ : Addr).add j) = some x := by
  intro j x hx
  rw [addr_add, cell_of_row _ _ _ _ _ _ rg, Nat.zero_add]
  simpa [irow] using hx
/-- A key laid behind a list of one's own, as a step. -/
theorem wp_append_K {w : World} {o : Oper} {a : Act} {K : Act → World → Prop} {Q : Exit → Act → World → Prop} (s x : Operand) (ho : o.op = .call { callee := .builtin .append, args := #[s, x], argTypes := #[31, 31] })
    (base : Nat) (v : Value) (ks : List (List Int)) (hs : a.eval s = v) (hI : OwnK w base v ks) (g : Nat) (key : List Int) (hkl : key.length = 32) (hx : a.eval x = .slice (some ⟨g, 0, none⟩) 1 1) (rg : w.heap[g]? = some (.cells (irow .u8 key) 24 (0, 0))) (hlen : ks.length ≤ 4398046511000) (hbase : base ≤ w.heap.size)
    (h : ∀ v' w', OwnK w' base v' (ks ++ [key]) → w.grownBy w' v.ownBlock → Nx w v v' → K (a.put o.dst v') w') : o.wp Tryd.prog a w K Q := by
  obtain ⟨i0, hi, hz0, hz1, hz2⟩ := infoKy
  refine wp_append_nx s x 31 ho base 24 i0 (.agg (irow .u8 (zr 32))) 32 32 Tryd.underlying31 hi hz0 hz1 hz2 rfl (by decide) v ks.length (kcs ks) hs hI ⟨g, 0, none⟩ 1 1 (key.map (Value.int .u8)) hx (by simp [hkl]) (row_news rg) (ints_one .u8 _) (by unfold maxLen; omega) (by omega) hbase (fun v' w' h1 h2 h3 => h v' w' ?_ h2 h3)
  unfold OwnK
  rw [kcs_app, kcs_one, List.length_append, List.length_singleton]
  exact h1
theorem wpList_append_K {w : World} {ops : Array Oper} {rest : List Oper} {o : Oper} {a : Act} {Q : Exit → Act → World → Prop} (hgd : o.guard = none) (s x : Operand) (ho : o.op = .call { callee := .builtin .append, args := #[s, x], argTypes := #[31, 31] })
    (base : Nat) (v : Value) (ks : List (List Int)) (hs : a.eval s = v) (hI : OwnK w base v ks) (g : Nat) (key : List Int) (hkl : key.length = 32) (hx : a.eval x = .slice (some ⟨g, 0, none⟩) 1 1) (rg : w.heap[g]? = some (.cells (irow .u8 key) 24 (0, 0))) (hlen : ks.length ≤ 4398046511000) (hbase : base ≤ w.heap.size)
    (h : ∀ v' w', OwnK w' base v' (ks ++ [key]) → w.grownBy w' v.ownBlock → Nx w v v' → wpList Tryd.prog ops Q rest (a.put o.dst v') w') : wpList Tryd.prog ops Q (o :: rest) a w :=
  wpList_plain hgd fun _ hK => wp_append_K s x ho base v ks hs hI g key hkl hx rg hlen hbase (fun v' w' h1 h2 h3 => hK _ _ (h v' w' h1 h2 h3))
theorem kcs_len : ∀ (ks : List (List Int)), (∀ k ∈ ks, k.length = 32) → (kcs ks).length = ks.length * 32
  | [], _ => rfl
  | k :: r, h => by
    have i := kcs_len r (fun x hx => h x (by simp [hx]))
    have e := h k (by simp)
    simp only [kcs, List.flatMap_cons, List.length_append, List.length_map, List.length_cons] at i ⊢
    omega
theorem kcs_get : ∀ (ks : List (List Int)) (i : Nat), (∀ k ∈ ks, k.length = 32) → i < ks.length → ((kcs ks).drop (i * 32)).take 32 = (ks.getD i []).map (Value.int .u8)
  | [], i, _, h => by simp at h
  | k :: r, 0, hl, _ => by
    have e := hl k (by simp)
    simp [kcs, e]
  | k :: r, (i + 1), hl, h => by
    have e := hl k (by simp)
    have j := kcs_get r i (fun x hx => hl x (by simp [hx])) (by simpa using h)
    rw [show kcs (k :: r) = k.map (Value.int .u8) ++ kcs r from rfl, show (i + 1) * 32 = (k.map (Value.int .u8)).length + i * 32 by simp [e]; omega, List.drop_append]
    simp only [Nat.add_sub_cancel_left, List.getD_cons_succ]
    rw [List.drop_eq_nil_of_le (by omega), List.nil_append]
    exact j
/-- A key of a list, as it lies there. -/
theorem OwnK.part {W : World} {b : Nat} {v : Value} {ks : List (List Int)} (h : OwnK W b v ks) (hl : ∀ k ∈ ks, k.length = 32) (i : Nat) (hi : i < ks.length) : ∃ g cap cur, v = .slice (some ⟨g, 0, none⟩) ks.length cap ∧ W.heap[g]? = some (.cells cur 24 (0, 0)) ∧ cur.extract (i * 32) (i * 32 + (irow .u8 (ks.getD i [])).size) = irow .u8 (ks.getD i []) := by
  obtain ⟨_, ⟨rfl, h0⟩ | ⟨g, cap, cur, rfl, _, hg, _, _, _, ht⟩⟩ := h
  · omega
  · refine ⟨g, cap, cur, rfl, hg, ?_⟩
    have hk : (ks.getD i []).length = 32 := hl _ (by rw [List.getD_eq_getElem?_getD, List.getElem?_eq_getElem hi]; exact List.getElem_mem _)
    have e := kcs_get ks i hl hi
    rw [← ht] at e
    apply Array.ext'
    rw [irow_size, hk]
    simp only [Array.toList_extract, irow, List.extract_eq_take_drop]
    rw [← e, List.drop_take, List.take_take]
    congr 1
    omega
/-- Keys: 32 bytes each. -/
def Kok (ks : List (List Int)) : Prop := ∀ k ∈ ks, k.length = 32 ∧ ∀ z ∈ k, 0 ≤ z ∧ z < 256
theorem Kok.len {ks : List (List Int)} (h : Kok ks) : ∀ k ∈ ks, k.length = 32 := fun k hk => (h k hk).1
theorem Kok.take {ks : List (List Int)} (h : Kok ks) (n : Nat) : Kok (ks.take n) := fun k hk => h k (List.mem_of_mem_take hk)
theorem Kok.drop {ks : List (List Int)} (h : Kok ks) (n : Nat) : Kok (ks.drop n) := fun k hk => h k (List.mem_of_mem_drop hk)
theorem Kok.at {ks : List (List Int)} (h : Kok ks) {i : Nat} (hi : i < ks.length) : (ks.getD i []).length = 32 ∧ ∀ z ∈ ks.getD i [], 0 ≤ z ∧ z < 256 := h _ (by rw [List.getD_eq_getElem?_getD, List.getElem?_eq_getElem hi]; exact List.getElem_mem _)
theorem Kok.app {a b : List (List Int)} (h : Kok a) (h2 : Kok b) : Kok (a ++ b) := fun k hk => (List.mem_append.1 hk).elim (h k) (h2 k)
theorem Kok.one {k : List Int} (h : k.length = 32 ∧ ∀ z ∈ k, 0 ≤ z ∧ z < 256) : Kok [k] := fun x hx => by rw [List.mem_singleton.1 hx]; exact h
theorem Kok.nil : Kok [] := fun k hk => by cases hk
/-- Keys that are handed in. -/
def Ksl (W : World) (v : Value) (ks : List (List Int)) : Prop :=
  ∃ ao cap, v = .slice ao ks.length cap ∧ ks.length ≤ cap ∧ Kok ks ∧ ks.length ≤ 4398046511000 ∧ (ao = none → cap = 0) ∧
    ∀ i, i < ks.length → ∃ g off cs t fr, ao = some ⟨g, off, none⟩ ∧ W.heap[g]? = some (.cells cs t fr) ∧ cs.extract (off + i * 32) (off + i * 32 + (irow .u8 (ks.getD i [])).size) = irow .u8 (ks.getD i [])
theorem Ksl.keep {W W' : World} {v : Value} {ks : List (List Int)} (h : Ksl W v ks) (hb : Below W.heap.size W W') : Ksl W' v ks := by
  obtain ⟨ao, cap, h1, h2, h3, h4, h5, h6⟩ := h
  refine ⟨ao, cap, h1, h2, h3, h4, h5, fun i hi => ?_⟩
  obtain ⟨g, off, cs, t, fr, q1, q2, q3⟩ := h6 i hi
  exact ⟨g, off, cs, t, fr, q1, Go.Proofs.YtgfeacnhdlgpoaaDoor.keep hb q2, q3⟩
theorem Ksl.slc {W : World} {v : Value} {ks : List (List Int)} (h : Ksl W v ks) : ∃ ao cap, v = .slice ao ks.length cap ∧ ks.length ≤ cap ∧ (ao = none → cap = 0) := by
  obtain ⟨ao, cap, h1, h2, _, _, h5, _⟩ := h
  exact ⟨ao, cap, h1, h2, h5⟩
theorem Ksl.ok {W : World} {v : Value} {ks : List (List Int)} (h : Ksl W v ks) : Kok ks := by obtain ⟨_, _, _, _, h, _⟩ := h; exact h
theorem Ksl.le {W : World} {v : Value} {ks : List (List Int)} (h : Ksl W v ks) : ks.length ≤ 4398046511000 := by obtain ⟨_, _, _, _, _, h, _⟩ := h; exact h
theorem Ksl.nil (W : World) : Ksl W (.slice none 0 0) [] := ⟨none, 0, rfl, Nat.le_refl _, Kok.nil, by simp, fun _ => rfl, fun i hi => by simp at hi⟩
theorem Ksl.head {W : World} {ao : Option Addr} {n cap k : Nat} {ks : List (List Int)} (h : Ksl W (.slice ao n cap) ks) (hk : k ≤ ks.length) : Ksl W (.slice ao k cap) (ks.take k) := by
  obtain ⟨ao', cap', e, h2, h3, h4, h5, h6⟩ := h
  cases e
  have hl : (ks.take k).length = k := by rw [List.length_take]; omega
  refine ⟨ao, cap, by rw [hl], by omega, h3.take k, by omega, h5, fun i hi => ?_⟩
  obtain ⟨g, off, cs, t, fr, q1, q2, q3⟩ := h6 i (by omega)
  have e : (ks.take k).getD i [] = ks.getD i [] := getD_take (by omega)
  exact ⟨g, off, cs, t, fr, q1, q2, by rw [e]; exact q3⟩
/-- What l[k:] is. -/
def sltl (ao : Option Addr) (n cap k : Nat) : Value := .slice (if cap = k then ao else ao.map (·.add (k * 32))) (n - k) (cap - k)
theorem Ksl.tail {W : World} {ao : Option Addr} {n cap k : Nat} {ks : List (List Int)} (h : Ksl W (.slice ao n cap) ks) (hk : k ≤ ks.length) : Ksl W (sltl ao n cap k) (ks.drop k) := by
  obtain ⟨ao', cap', e, h2, h3, h4, h5, h6⟩ := h
  cases e
  have hl : (ks.drop k).length = ks.length - k := by rw [List.length_drop]
  refine ⟨_, cap - k, by rw [hl]; rfl, by omega, h3.drop k, by omega, fun e => ?_, fun i hi => ?_⟩
  · by_cases hc : cap = k
    · omega
    · rw [if_neg hc] at e
      cases ao with
      | none => rw [h5 rfl]; omega
      | some a => cases e
  · obtain ⟨g, off, cs, t, fr, q1, q2, q3⟩ := h6 (i + k) (by omega)
    have hc : ¬ cap = k := by omega
    have e : (ks.drop k).getD i [] = ks.getD (i + k) [] := by
      have := getD_drop (l := ks) (k := k) (i := i + k) (by omega)
      rwa [Nat.add_sub_cancel] at this
    refine ⟨g, off + k * 32, cs, t, fr, by rw [if_neg hc, q1, Option.map_some, addr_add], q2, ?_⟩
    rw [e, show off + k * 32 + i * 32 = off + (i + k) * 32 by omega]
    exact q3
theorem elemK : Tryd.prog.underlying 31 = some (.slice (Tryd.prog.elem 31)) := by kernel_rfl
theorem sizeK (W : World) : (sizeOf (Tryd.prog.elem 31)).run Tryd.prog W = .ok 32 W := by kernel_rfl
theorem slk_head (ao : Option Addr) (len cap k : Nat) (h : k ≤ cap) (hz : ao = none → cap = 0) (W : World) : (Instr.sliceAt 31 (.slice ao len cap) none (some (.int .i64 (k : Int))) none).run Tryd.prog W = .ok (.slice ao k cap) W := by
  rw [run_sliceAt_slice _ _ _ _ _ _ elemK, run_slice_h W 31 ao len cap elemK .i64 _ (by omega) (by omega), sizeK]
  show Result.ok (sliced _ _ _ _ 32) W = _
  rw [Int.toNat_natCast, sliced]
  cases ao with
  | none => simp
  | some a => obtain ⟨b, o, s⟩ := a; cases s <;> simp [Addr.add]
theorem slk_tail (ao : Option Addr) (len cap k : Nat) (h : k ≤ len) (W : World) : (Instr.sliceAt 31 (.slice ao len cap) (some (.int .i64 (k : Int))) none none).run Tryd.prog W = .ok (sltl ao len cap k) W := by
  rw [run_sliceAt_slice _ _ _ _ _ _ elemK, run_slice_l W 31 ao len cap elemK .i64 _ (by omega) (by omega), sizeK]
  show Result.ok (sliced _ _ _ _ 32) W = _
  rw [Int.toNat_natCast, sliced]
  rfl
/-- Own keys, handed in. -/
theorem OwnK.ksl {W : World} {b : Nat} {v : Value} {ks : List (List Int)} (h : OwnK W b v ks) (hk : Kok ks) (hl : ks.length ≤ 4398046511000) : Ksl W v ks := by
  have hp := h.part hk.len
  obtain ⟨h1, ⟨rfl, h0⟩ | ⟨g, cap, cur, rfl, hb, hg, hn, hm, hs, ht⟩⟩ := h
  · have : ks = [] := List.eq_nil_of_length_eq_zero h0
    subst this
    exact Ksl.nil W
  · refine ⟨some ⟨g, 0, none⟩, cap, rfl, hn, hk, hl, (by intro e; cases e), fun i hi => ?_⟩
    obtain ⟨g', cap', cur', e, q1, q2⟩ := hp i hi
    cases e
    exact ⟨g, 0, cur', _, _, rfl, q1, by rw [Nat.zero_add]; exact q2⟩
theorem OwnK.down {W : World} {b c : Nat} {v : Value} {ks : List (List Int)} (h : OwnK W b v ks) (hc : c ≤ b) : OwnK W c v ks := by
  obtain ⟨h1, h2 | ⟨g, cap, cur, hv, hb, r⟩⟩ := h
  · exact ⟨h1, .inl h2⟩
  · exact ⟨h1, .inr ⟨g, cap, cur, hv, Nat.le_trans hc hb, r⟩⟩
theorem OwnK.nil (W : World) (b : Nat) : OwnK W b (.slice none 0 0) [] := ⟨rfl, .inl ⟨rfl, rfl⟩⟩
theorem OwnK.slc {W : World} {b : Nat} {v : Value} {ks : List (List Int)} (h : OwnK W b v ks) : ∃ ao cap, v = .slice ao ks.length cap ∧ ks.length ≤ cap ∧ (ao = none → cap = 0) := by
  obtain ⟨h1, ⟨rfl, h0⟩ | ⟨g, cap, cur, rfl, hb, hg, hn, _⟩⟩ := h
  · exact ⟨none, 0, by rw [h0], by omega, fun _ => rfl⟩
  · exact ⟨_, cap, rfl, hn, by intro e; cases e⟩
/-- One key, in a block of its own. -/
theorem OwnK.single {W : World} {g : Nat} {k : List Int} (hk : k.length = 32) (rg : W.heap[g]? = some (.cells (irow .u8 k) 24 (0, 0))) {b : Nat} (hb : b ≤ g) : OwnK W b (.slice (some ⟨g, 0, none⟩) 1 1) [k] :=
  ⟨by simp [kcs, hk], .inr ⟨g, 1, irow .u8 k, rfl, hb, rg, Nat.le_refl _, by decide, by rw [irow_size, hk], by simp only [irow, kcs_one]; rw [List.take_of_length_le (by simp [hk])]⟩⟩
/-- The cells of a list that is handed in. -/
theorem Ksl.cells {W : World} {ao : Option Addr} {n cap : Nat} {ks : List (List Int)} (h : Ksl W (.slice ao n cap) ks) : ∀ ad, ao = some ad → ∀ j u, (kcs ks)[j]? = some u → W.cell? (ad.add j) = some u := by
  obtain ⟨ao', cap', e, h2, h3, h4, h5, h6⟩ := h
  cases e
  rintro ad rfl j u hj
  have hkl := kcs_len ks h3.len
  have hjl : j < (kcs ks).length := by
    rcases Nat.lt_or_ge j (kcs ks).length with q | q
    · exact q
    · rw [List.getElem?_eq_none q] at hj; cases hj
  have hi : j / 32 < ks.length := by omega
  obtain ⟨g, off, cs, t, fr, q1, q2, q3⟩ := h6 (j / 32) hi
  cases q1
  have hk := (h3.at hi).1
  have e := kcs_get ks (j / 32) h3.len hi
  have e2 : (irow .u8 (ks.getD (j / 32) []))[j % 32]? = some u := by
    have e3 := congrArg (fun q => q[j % 32]?) e
    replace e3 : (((kcs ks).drop (j / 32 * 32)).take 32)[j % 32]? = ((ks.getD (j / 32) []).map (Value.int .u8))[j % 32]? := e3
    rw [List.getElem?_take_of_lt (by omega), List.getElem?_drop, show j / 32 * 32 + j % 32 = j by omega, hj] at e3
    rw [irow, ← Array.getElem?_toList]
    exact e3.symm
  rw [← q3, irow_size, hk, Array.getElem?_extract] at e2
  have e4 : cs[off + j]? = some u := by
    split at e2
    · rw [show off + j = off + j / 32 * 32 + j % 32 by omega]; exact e2
    · cases e2
  rw [addr_add, cell_of_row _ _ _ _ _ _ q2]
  exact e4
/-- A list laid behind a list of one's own, as a step. -/
theorem wp_append_Ks {w : World} {o : Oper} {a : Act} {K : Act → World → Prop} {Q : Exit → Act → World → Prop} (s x : Operand) (ho : o.op = .call { callee := .builtin .append, args := #[s, x], argTypes := #[31, 31] })
    (base : Nat) (v : Value) (ks : List (List Int)) (hs : a.eval s = v) (hI : OwnK w base v ks) (u : Value) (ms : List (List Int)) (hx : a.eval x = u) (hM : Ksl w u ms) (hlen : ks.length + ms.length ≤ 4398046511000) (hbase : base ≤ w.heap.size)
    (h : ∀ v' w', OwnK w' base v' (ks ++ ms) → w.grownBy w' v.ownBlock → Nx w v v' → K (a.put o.dst v') w') : o.wp Tryd.prog a w K Q := by
  obtain ⟨i0, hi, hz0, hz1, hz2⟩ := infoKy
  obtain ⟨ao, cap, rfl, _, hnil⟩ := hM.slc
  cases ao with
  | some ad =>
    refine wp_append_nx s x 31 ho base 24 i0 (.agg (irow .u8 (zr 32))) 32 32 Tryd.underlying31 hi hz0 hz1 hz2 rfl (by decide) v ks.length (kcs ks) hs hI ad ms.length cap (kcs ms) hx (kcs_len ms hM.ok.len) (hM.cells ad rfl) (fun y hy => ?_) (by unfold maxLen; omega) (by omega) hbase (fun v' w' h1 h2 h3 => h v' w' ?_ h2 h3)
    · simp only [kcs, List.mem_flatMap] at hy
      obtain ⟨k, _, hy⟩ := hy
      exact ints_one .u8 k y hy
    · unfold OwnK
      rw [kcs_app, List.length_append]
      exact h1
  | none =>
    have hc := hnil rfl
    obtain ⟨_, _, e, h2, _⟩ := hM
    cases e
    have h0 : ms.length = 0 := by omega
    have hm : ms = [] := List.eq_nil_of_length_eq_zero h0
    subst hm
    have hrun := run_append_owned_none (P := Tryd.prog) w base 31 o.type 24 i0 32 Tryd.underlying31 hi _ ks.length (kcs ks) hI
    subst hc
    unfold Oper.wp
    simp [execOp, ho, resolve, invoke, builtin, hs, hx, hrun, Result.andThen]
    exact h v w (by simpa using hI) (World.grownBy.refl _ _) (Nx.refl _ _)
theorem e_slice {o : Oper} {a : Act} {w : World} (t : TypeId) (x : Operand) (lo hi : Option Operand) (ho : o.op = .slice t x lo hi none) (v : Value) (hr : (Instr.sliceAt t (a.eval x) (lo.map a.eval) (hi.map a.eval) none).run Tryd.prog w = .ok v w) : (execOp a.eval o).run Tryd.prog w = .ok (.value v) w := by
  unfold execOp
  simp only [ho]
  simp [hr, Result.andThen]
end Go.Proofs.YtgfeacnhdlgpoaaDoor

