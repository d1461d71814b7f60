import Derived.Test.YtlbcdjflcghkeaaDoorProg
import Derived.WalkKit
import Derived.WalkSpells
import Derived.WalkLawsBesides
import Derived.Lib.QuietBelow
import Derived.BigQuiet
import Derived.OrdersHeld
import Derived.OwnWalk
import Derived.Deep.RegionHeld3
import Derived.Deep.Cut
import Derived.Deep.CutRange
import Derived.Deep.CutBlock
import Derived.Maps.Own
import Derived.Test.YtlbcdjflcghkeaaDoorTuv
namespace Go.Proofs.YtlbcdjflcghkeaaDoor
set_option maxRecDepth 100000
open Go Go.RowKit Go.Sort
attribute [local go_sem] setCell_drewN alloc_drewN
theorem infoKnz : ∃ i, Tryd.prog.info? 32 = some i ∧ i.zero = some (.agg (knr zkn)) ∧ i.size = 35 ∧ i.bytes = 56 := ⟨_, rfl, rfl, rfl, rfl⟩
def AllN (l : List Kn) : Prop := ∀ s ∈ l, s.ok
theorem AllN.at {l : List Kn} (h : AllN l) {i : Nat} (hi : i < l.length) : (l.getD i zkn).ok := h _ (mem_getD zkn hi)
theorem AllN.take {l : List Kn} (h : AllN l) (k : Nat) : AllN (l.take k) := fun s hs => h s (List.mem_of_mem_take hs)
theorem AllN.drop {l : List Kn} (h : AllN l) (k : Nat) : AllN (l.drop k) := fun s hs => h s (List.mem_of_mem_drop hs)
theorem AllN.app {l r : List Kn} (h : AllN l) (k : AllN r) : AllN (l ++ r) := fun s hs => (List.mem_append.1 hs).elim (h s) (k s)
theorem AllN.one {s : Kn} (h : s.ok) : AllN [s] := fun x hx => by rw [List.mem_singleton.1 hx]; exact h
theorem AllN.nil : AllN [] := fun s hs => by cases hs
theorem AllN.set {l : List Kn} (h : AllN l) (i : Nat) {a : Kn} (ha : a.ok) : AllN (l.set i a) := fun s hs => by
  rcases List.mem_or_eq_of_mem_set hs with q | q
  · exact h s q
  · rw [q]; exact ha
def kns (l : List Kn) : List Value := l.flatMap knl
theorem kns_ok {l : List Kn} (h : AllN l) : ∀ s ∈ l, (knl s).length = 35 := fun s hs => knl_len s (h s hs).1
theorem kns_len {l : List Kn} (h : AllN l) : (kns l).length = l.length * 35 := tflat_len l (kns_ok h)
theorem kns_app (a b : List Kn) : kns (a ++ b) = kns a ++ kns b := by simp [kns]
theorem kns_one (s : Kn) : kns [s] = knl s := by simp [kns]
theorem kns_ones (l : List Kn) : ∀ u ∈ kns l, u.oneCell' = true := by
  intro u hu
  obtain ⟨s, _, h⟩ := List.mem_flatMap.1 hu
  exact knl_one s u h
def OwnN (W : World) (b : Nat) (v : Value) (l : List Kn) : Prop := W.ownsRow b 32 35 v l.length (kns l) ∧ AllN l
theorem OwnN.keep {W V : World} {b : Nat} {v : Value} {l : List Kn} (h : OwnN W b v l) (hb : Below W.heap.size W V) : OwnN V b v l := ⟨own_kp h.1 hb, h.2⟩
theorem OwnN.move {W V : World} {b : Nat} {v : Value} {l : List Kn} (h : OwnN W b v l) (hm : ∀ g, v.ownBlock = some g → V.heap[g]? = W.heap[g]?) : OwnN V b v l := ⟨own_move h.1 hm, h.2⟩
theorem OwnN.nil (W : World) (b : Nat) : OwnN W b (.slice none 0 0) [] := ⟨⟨rfl, .inl ⟨rfl, rfl⟩⟩, AllN.nil⟩
theorem OwnN.lt {W : World} {b : Nat} {v : Value} {l : List Kn} (h : OwnN W b v l) : ∀ k, v.ownBlock = some k → b ≤ k ∧ k < W.heap.size := World.ownsRow.lt h.1
theorem OwnN.sl {W : World} {b : Nat} {v : Value} {l : List Kn} (h : OwnN W b v l) : ∃ ao cap, v = .slice ao l.length cap ∧ l.length ≤ cap ∧ cap ≤ maxLen ∧ (ao = none → cap = 0) ∧ ∀ ad, ao = some ad → ∃ g, ad = ⟨g, 0, none⟩ := own_sl h.1
theorem OwnN.at {W : World} {b : Nat} {ao : Option Addr} {m cap : Nat} {l : List Kn} (h : OwnN W b (.slice ao m cap) l) {i : Nat} (hi : i < l.length) : ∃ g, ao = some ⟨g, 0, none⟩ ∧ g < W.heap.size ∧ W.rangeAt g (i * 35) (knl (gk l i)) := by
  have h0 := h.1
  obtain ⟨_, ⟨e, h3⟩ | ⟨gl, cap2, cur, e, hb, hg, _⟩⟩ := h0
  · omega
  · cases e
    exact ⟨gl, rfl, lt_of_row hg, range_own h.1 (flat_mem zkn (kns_ok h.2) hi)⟩
theorem wp_append_N {w : World} {o : Oper} {a : Act} {K : Act → World → Prop} {Q : Exit → Act → World → Prop} (s x : Operand) (ho : o.op = .call { callee := .builtin .append, args := #[s, x], argTypes := #[28, 28] })
    (base : Nat) (v : Value) (l : List Kn) (hs : a.eval s = v) (hI : OwnN w base v l) (ad : Addr) (r : List Kn) (c : Nat) (hr : AllN r) (hx : a.eval x = .slice (some ad) r.length c) (hM : ∀ j u, (kns r)[j]? = some u → w.cell? (ad.add j) = some u) (hlen : l.length + r.length ≤ 1000000) (hbase : base ≤ w.heap.size)
    (h : ∀ v' w', OwnN w' base v' (l ++ r) → w.grownBy w' v.ownBlock → Nx w v v' → K (a.put o.dst v') w') : o.wp Tryd.prog a w K Q := by
  obtain ⟨i0, hi, hz0, hz1, hz2⟩ := infoKnz
  refine wp_append_nx s x 28 ho base 32 i0 (.agg (knr zkn)) 35 56 Tryd.underlying28 hi hz0 hz1 hz2 rfl (by decide) v l.length (kns l) hs hI.1 ad r.length c (kns r) hx (kns_len hr) hM (kns_ones _) (by unfold maxLen; omega) (by omega) hbase (fun v' w' h1 h2 h3 => h v' w' ⟨?_, hI.2.app hr⟩ h2 h3)
  rw [List.length_append, kns_app]
  exact h1
theorem wpList_append_N {w : World} {ops : Array Oper} {rest : List Oper} {o : Oper} {a : Act} {Q : Exit → Act → World → Prop} (hgd : o.guard = none) (s x : Operand) (ho : o.op = .call { callee := .builtin .append, args := #[s, x], argTypes := #[28, 28] })
    (base : Nat) (v : Value) (l : List Kn) (hs : a.eval s = v) (hI : OwnN w base v l) (ad : Addr) (r : List Kn) (c : Nat) (hr : AllN r) (hx : a.eval x = .slice (some ad) r.length c) (hM : ∀ j u, (kns r)[j]? = some u → w.cell? (ad.add j) = some u) (hlen : l.length + r.length ≤ 1000000) (hbase : base ≤ w.heap.size)
    (h : ∀ v' w', OwnN w' base v' (l ++ r) → w.grownBy w' v.ownBlock → Nx w v v' → wpList Tryd.prog ops Q rest (a.put o.dst v') w') : wpList Tryd.prog ops Q (o :: rest) a w :=
  wpList_plain hgd fun _ hK => wp_append_N s x ho base v l hs hI ad r c hr hx hM hlen hbase (fun v' w' h1 h2 h3 => hK _ _ (h v' w' h1 h2 h3))
theorem kns_split (l : List Kn) (k : Nat) : kns l = kns (l.take k) ++ kns (l.drop k) := by rw [← kns_app, List.take_append_drop]
theorem kns_take {l : List Kn} (h : AllN l) (k : Nat) (hk : k ≤ l.length) : (kns l).take (k * 35) = kns (l.take k) := by
  rw [kns_split l k, List.take_left' (by rw [kns_len (h.take k), List.length_take, Nat.min_eq_left hk])]
theorem kns_drop {l : List Kn} (h : AllN l) (k : Nat) (hk : k ≤ l.length) : (kns l).drop (k * 35) = kns (l.drop k) := by
  rw [kns_split l k, List.drop_left' (by rw [kns_len (h.take k), List.length_take, Nat.min_eq_left hk])]
/-- One of them written anew. -/
theorem OwnN.put {W : World} {b g cap : Nat} {l : List Kn} {cur : Array Value} (h : OwnN W b (.slice (some ⟨g, 0, none⟩) l.length cap) l) (hg : W.heap[g]? = some (.cells cur 32 (0, 0))) {i : Nat} (hi : i < l.length) {a : Kn} (ha : a.ok) : OwnN (W.setRow g (ovw cur (i * 35) (knl a))) b (.slice (some ⟨g, 0, none⟩) l.length cap) (l.set i a) := by
  have hlen := knl_len a ha.1
  have hsp := own_splice h.1 hg (i * 35) (knl a) (by rw [hlen]; omega)
  have hnew : (kns l).take (i * 35) ++ (knl a ++ (kns l).drop (i * 35 + (knl a).length)) = kns (l.set i a) := by
    rw [List.set_eq_take_append_cons_drop, if_pos hi, kns_app, kns_take h.2 _ (by omega), hlen, show i * 35 + 35 = (i + 1) * 35 by omega, kns_drop h.2 _ (by omega)]
    congr 1
  rw [hnew] at hsp
  exact ⟨by rw [List.length_set]; exact hsp, h.2.set i ha⟩
theorem OwnN.cur {W : World} {b g m cap : Nat} {l : List Kn} (h : OwnN W b (.slice (some ⟨g, 0, none⟩) m cap) l) : ∃ cur, W.heap[g]? = some (.cells cur 32 (0, 0)) ∧ cur.size = cap * 35 ∧ l.length ≤ cap ∧ m = l.length ∧ cur.toList.take (l.length * 35) = kns l ∧ b ≤ g ∧ cap ≤ maxLen := by
  obtain ⟨_, ⟨e, _⟩ | ⟨g2, cap2, cur, e, hb, hg, hn, hm, hs, ht⟩⟩ := h.1
  · cases e
  · cases e
    exact ⟨cur, hg, hs, hn, rfl, ht, hb, hm⟩
/-! Scripts, as they are handed in. -/
def zop : Opn := ⟨0, false, ⟨#[]⟩, zr 32, false, ⟨#[]⟩⟩
def gop (l : List Opn) (i : Nat) : Opn := l.getD i zop
def OkO (x : Opn) : Prop := K32 x.k ∧ x.n.size ≤ 9223372036854775806
def Scr (W : World) (v : Value) (l : List Opn) : Prop := ∃ ao cap, v = .slice ao l.length cap ∧ l.length ≤ 9223372036854775806 ∧ ∀ i, i < l.length → OkO (gop l i) ∧ ∃ b off, ao = some ⟨b, off, none⟩ ∧ b < W.heap.size ∧ W.rangeAt b (off + i * 37) (opl (gop l i))
theorem Scr.at {W V : World} {ao : Option Addr} {m cap : Nat} {l : List Opn} (h : Scr W (.slice ao m cap) l) (hb : Below W.heap.size W V) {i : Nat} (hi : i < l.length) : ∃ b off, ao = some ⟨b, off, none⟩ ∧ b < W.heap.size ∧ V.rangeAt b (off + i * 37) (opl (gop l i)) := by
  obtain ⟨a2, c2, e, _, hq⟩ := h
  cases e
  obtain ⟨b, off, e, h1, h2⟩ := (hq i hi).2
  exact ⟨b, off, e, h1, rangeAt_keep h2 (hb.block b h1)⟩
end Go.Proofs.YtlbcdjflcghkeaaDoor
