import Derived.Test.YtebgdenfaiinmaaProg
import Derived.WalkKit
import Derived.WalkSpells
import Derived.WalkLawsBesides
import Derived.Lib.QuietBelow
import Derived.BigQuiet
import Derived.OrdersHeld
import Derived.Deep.RegionHeld3
import Derived.OwnWalk
import Derived.Test.YtebgdenfaiinmaaKit
import Derived.Test.YtebgdenfaiinmaaSpq
namespace Go.Proofs.Ytebgdenfaiinmaa
open Go Go.RowKit Go.Sort Go.ChangeMaps Go.MapKept
attribute [local go_sem] setCell_drewN alloc_drewN

/-- One call of a script. -/
structure Opd where
  kind : Int
  oth : Bool
  L : List Sr
  h : List Int
  n : Int
  cnt : Int
def zopd : Opd := ⟨0, false, [], zr 32, 0, 0⟩
def opc (o : Opd) (u : Value) : List Value := .int .i64 o.kind :: .bool o.oth :: u :: (o.h.map (Value.int .u8) ++ [.int .u32 o.n, .int .i64 o.cnt])
def opr (o : Opd) (u : Value) : Array Value := (opc o u).toArray
def gop (os : List Opd) (i : Nat) : Opd := os.getD i zopd
theorem opc_len {o : Opd} (h : o.h.length = 32) (u : Value) : (opc o u).length = 37 := by simp [opc, h]
theorem opr_size {o : Opd} (h : o.h.length = 32) (u : Value) : (opr o u).size = 37 := by simp [opr, opc_len h]
theorem opr_one (o : Opd) (ao : Option Addr) (n c : Nat) : (opr o (.slice ao n c)).all (·.oneCell') = true := by
  simp [opr, opc, Value.oneCell']
theorem opr_kind (o : Opd) (u : Value) : (opr o u)[0]? = some (.int .i64 o.kind) := by simp [opr, opc]
theorem opr_oth (o : Opd) (u : Value) : (opr o u)[1]? = some (.bool o.oth) := by simp [opr, opc]
theorem opr_u (o : Opd) (u : Value) : (opr o u)[2]? = some u := by simp [opr, opc]
theorem opr_n {o : Opd} (h : o.h.length = 32) (u : Value) : (opr o u)[35]? = some (.int .u32 o.n) := by simp [opr, opc, h]
theorem opr_cnt {o : Opd} (h : o.h.length = 32) (u : Value) : (opr o u)[36]? = some (.int .i64 o.cnt) := by simp [opr, opc, h]
theorem opr_h {o : Opd} (h : o.h.length = 32) (u : Value) : (opr o u).extract 3 (3 + (irow .u8 o.h).size) = irow .u8 o.h := by
  apply Array.ext'
  simp [opr, opc, irow, h]
theorem infoOp {o : Opd} (h : o.h.length = 32) (u : Value) : (Try.prog.info? 43).map (·.size) = some (opr o u).size := by
  rw [opr_size h]; kernel_rfl
theorem infoOpl {o : Opd} (h : o.h.length = 32) (u : Value) : (Try.prog.info? 43).map (·.size) = some (opc o u).length := by
  rw [opc_len h]; kernel_rfl
theorem zop (W : World) : (Instr.alloc 43 true (.tuple #[])).run Try.prog W = .ok (.pointer (some ⟨W.heap.size, 0, none⟩)) (W.alloc (.cells (opr zopd (.slice none 0 0)) 43)) := by kernel_rfl
/-- A script handed in. -/
def Ops (W : World) (v : Value) (os : List Opd) : Prop := ∃ ao cap, v = .slice ao os.length cap ∧ os.length ≤ 1599289640355 ∧ ∀ i, i < os.length → ∃ b off u, ao = some ⟨b, off, none⟩ ∧ b < W.heap.size ∧ W.rangeAt b (off + i * 37) (opc (gop os i) u) ∧ SpL W u (gop os i).L ∧ (gop os i).h.length = 32
theorem Ops.keep {W V : World} {v : Value} {os : List Opd} (h : Ops W v os) (hb : Below W.heap.size W V) : Ops V v os := by
  obtain ⟨ao, cap, e, hl, hc⟩ := h
  refine ⟨ao, cap, e, hl, fun i hi => ?_⟩
  obtain ⟨b, off, u, e1, h1, h2, h3, h4⟩ := hc i hi
  exact ⟨b, off, u, e1, Nat.lt_of_lt_of_le h1 hb.size, rangeAt_keep h2 (hb.block b h1), h3.keep hb, h4⟩
theorem Ops.form {W : World} {v : Value} {os : List Opd} (h : Ops W v os) : ∃ ao cap, v = .slice ao os.length cap ∧ os.length ≤ 1599289640355 := by
  obtain ⟨ao, cap, e, hl, _⟩ := h
  exact ⟨ao, cap, e, hl⟩
theorem Ops.at {W : World} {ao : Option Addr} {k cap : Nat} {os : List Opd} (h : Ops W (.slice ao k cap) os) {i : Nat} (hi : i < os.length) : ∃ b off u, ao = some ⟨b, off, none⟩ ∧ b < W.heap.size ∧ W.rangeAt b (off + i * 37) (opc (gop os i) u) ∧ SpL W u (gop os i).L ∧ (gop os i).h.length = 32 := by
  obtain ⟨ao', cap', e, _, hc⟩ := h
  cases e
  exact hc i hi
/-! Stores side by side. -/
def Dis (g b : Nat) (v : Value) (g' b' : Nat) (v' : Value) : Prop := ∀ k, own3 g b v k → ¬ own3 g' b' v' k
theorem Dis.symm {g b : Nat} {v : Value} {g' b' : Nat} {v' : Value} (h : Dis g b v g' b' v') : Dis g' b' v' g b v := fun k h1 h2 => h k h2 h1
theorem Sto.down {W : World} {base c g b : Nat} {v : Value} {most : Int} {l : List Sr} (h : Sto W base g b v most l) (hc : c ≤ base) : Sto W c g b v most l := ⟨h.row, Go.Proofs.Ytebgdenfaiinmaa.own_down h.own hc, h.map, h.ok, h.nod, h.most0, h.len, Nat.le_trans hc h.bg, Nat.le_trans hc h.bb, h.ne⟩
theorem Sto.oth {W V : World} {base' g b g' b' : Nat} {v v2 v' : Value} {most : Int} {l' : List Sr} (h' : Sto W base' g' b' v' most l') (hd : Dis g b v g' b' v') (hf : Fr (own3 g b v) W V) (hn : Nx W v v2) : Sto V base' g' b' v' most l' ∧ Dis g b v2 g' b' v' := by
  refine ⟨h'.move (fun k hk => hf.block k (h'.low k hk).2 (fun e => hd k e hk)), fun k h1 h2 => ?_⟩
  exact hd k (own3_new hn k (h'.low k h2).2 h1) h2
theorem dis_new {W W' : World} {base base' g b g' b' : Nat} {v v' : Value} {most most' : Int} {l l' : List Sr} (h : Sto W base g b v most l) (h' : Sto W' base' g' b' v' most' l') (hs : W.heap.size ≤ base') : Dis g b v g' b' v' := fun k h1 h2 => by
  have := (h.low k h1).2
  have := (h'.low k h2).1
  omega
structure Fou (W : World) (B : Nat) (most : Int) (g1 b1 : Nat) (v1 : Value) (l1 : List Sr) (g2 b2 : Nat) (v2 : Value) (l2 : List Sr) (g3 b3 : Nat) (v3 : Value) (l3 : List Sr) (g4 b4 : Nat) (v4 : Value) (l4 : List Sr) : Prop where
  s1 : Sto W B g1 b1 v1 most l1
  s2 : Sto W B g2 b2 v2 most l2
  s3 : Sto W B g3 b3 v3 most l3
  s4 : Sto W B g4 b4 v4 most l4
  d12 : Dis g1 b1 v1 g2 b2 v2
  d13 : Dis g1 b1 v1 g3 b3 v3
  d14 : Dis g1 b1 v1 g4 b4 v4
  d23 : Dis g2 b2 v2 g3 b3 v3
  d24 : Dis g2 b2 v2 g4 b4 v4
  d34 : Dis g3 b3 v3 g4 b4 v4
section
variable {W V : World} {B : Nat} {most : Int} {g1 b1 : Nat} {v1 : Value} {l1 : List Sr} {g2 b2 : Nat} {v2 : Value} {l2 : List Sr} {g3 b3 : Nat} {v3 : Value} {l3 : List Sr} {g4 b4 : Nat} {v4 : Value} {l4 : List Sr} {v' : Value} {l' : List Sr}
theorem Fou.keep (h : Fou W B most g1 b1 v1 l1 g2 b2 v2 l2 g3 b3 v3 l3 g4 b4 v4 l4) (hb : Below W.heap.size W V) : Fou V B most g1 b1 v1 l1 g2 b2 v2 l2 g3 b3 v3 l3 g4 b4 v4 l4 := ⟨h.s1.keep hb, h.s2.keep hb, h.s3.keep hb, h.s4.keep hb, h.d12, h.d13, h.d14, h.d23, h.d24, h.d34⟩
theorem Fou.put1 (h : Fou W B most g1 b1 v1 l1 g2 b2 v2 l2 g3 b3 v3 l3 g4 b4 v4 l4) (hs : Sto V B g1 b1 v' most l') (hf : Fr (own3 g1 b1 v1) W V) (hn : Nx W v1 v') : Fou V B most g1 b1 v' l' g2 b2 v2 l2 g3 b3 v3 l3 g4 b4 v4 l4 := by
  obtain ⟨a2, c2⟩ := h.s2.oth h.d12 hf hn
  obtain ⟨a3, c3⟩ := h.s3.oth h.d13 hf hn
  obtain ⟨a4, c4⟩ := h.s4.oth h.d14 hf hn
  exact ⟨hs, a2, a3, a4, c2, c3, c4, h.d23, h.d24, h.d34⟩
theorem Fou.put2 (h : Fou W B most g1 b1 v1 l1 g2 b2 v2 l2 g3 b3 v3 l3 g4 b4 v4 l4) (hs : Sto V B g2 b2 v' most l') (hf : Fr (own3 g2 b2 v2) W V) (hn : Nx W v2 v') : Fou V B most g1 b1 v1 l1 g2 b2 v' l' g3 b3 v3 l3 g4 b4 v4 l4 := by
  obtain ⟨a1, c1⟩ := h.s1.oth h.d12.symm hf hn
  obtain ⟨a3, c3⟩ := h.s3.oth h.d23 hf hn
  obtain ⟨a4, c4⟩ := h.s4.oth h.d24 hf hn
  exact ⟨a1, hs, a3, a4, c1.symm, h.d13, h.d14, c3, c4, h.d34⟩
theorem Fou.put3 (h : Fou W B most g1 b1 v1 l1 g2 b2 v2 l2 g3 b3 v3 l3 g4 b4 v4 l4) (hs : Sto V B g3 b3 v' most l') (hf : Fr (own3 g3 b3 v3) W V) (hn : Nx W v3 v') : Fou V B most g1 b1 v1 l1 g2 b2 v2 l2 g3 b3 v' l' g4 b4 v4 l4 := by
  obtain ⟨a1, c1⟩ := h.s1.oth h.d13.symm hf hn
  obtain ⟨a2, c2⟩ := h.s2.oth h.d23.symm hf hn
  obtain ⟨a4, c4⟩ := h.s4.oth h.d34 hf hn
  exact ⟨a1, a2, hs, a4, h.d12, c1.symm, h.d14, c2.symm, h.d24, c4⟩
end

end Go.Proofs.Ytebgdenfaiinmaa
