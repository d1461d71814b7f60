import Derived.Test.YtamieopjigjfiabDoorProg
import Derived.WalkKit
import Derived.WalkSpells
import Derived.WalkLawsBesides
import Derived.Lib.QuietBelow
import Derived.BigQuiet
import Derived.Deep.RegionHeld3
import Derived.Deep.DeepAppendRoom
import Derived.Test.YtamieopjigjfiabDoorKa
import Derived.Test.YtamieopjigjfiabDoorWi
import Derived.Test.YtamieopjigjfiabDoorYc
namespace Go.Proofs.YtamieopjigjfiabDoor
set_option maxRecDepth 100000
open Go Go.RowKit Go.Sort
attribute [local go_sem] setCell_drewN alloc_drewN


/-- The first k bytes of a list, in a list of its own. -/
def OwnN (W : World) (b : Nat) (v : Value) (k : Nat) (d : List B) : Prop := W.ownsRow b 5 1 v k ((bl (d.take k)).map (Value.int .u8))
theorem OwnN.full {W : World} {b : Nat} {v : Value} {d : List B} (h : OwnN W b v d.length d) : Own W b v d := by
  unfold OwnN at h
  rw [List.take_length] at h
  exact h
theorem take_bl (d : List B) (k : Nat) (h : k < d.length) : (bl (d.take k)).map (Value.int .u8) ++ [.int .u8 (bv (gb d k))] = (bl (d.take (k + 1))).map (Value.int .u8) := by
  rw [List.take_add_one, List.getElem?_eq_getElem h]
  simp only [bl, List.map_append, gb, List.getD_eq_getElem?_getD, List.getElem?_eq_getElem h]; rfl
theorem OwnN.keep {W V : World} {b k : Nat} {v : Value} {d : List B} (h : OwnN W b v k d) (hb : Below W.heap.size W V) : OwnN V b v k d := by
  obtain ⟨h1, h2 | ⟨g, cap, cur, rfl, hb2, hg, h3⟩⟩ := h
  · exact ⟨h1, .inl h2⟩
  · exact ⟨h1, .inr ⟨g, cap, cur, rfl, hb2, Go.Proofs.YtamieopjigjfiabDoor.keep hb hg, h3⟩⟩
theorem OwnN.setRow {W : World} {b k g : Nat} {v : Value} {d : List B} (h : OwnN W b v k d) (hg : g < b) (cs : Array Value) : OwnN (W.setRow g cs) b v k d := by
  obtain ⟨h1, h2 | ⟨g', cap, cur, rfl, hb2, hg', h3⟩⟩ := h
  · exact ⟨h1, .inl h2⟩
  · exact ⟨h1, .inr ⟨g', cap, cur, rfl, hb2, (setRow_other W g g' cs (by omega)).trans hg', h3⟩⟩
/-- One cell. -/
def CellAt (W : World) (a : Addr) (v : Value) : Prop := a.block < W.heap.size ∧ W.cell? a = some v
theorem CellAt.keep {W V : World} {a : Addr} {v : Value} (h : CellAt W a v) (hb : Below W.heap.size W V) : CellAt V a v := ⟨Nat.lt_of_lt_of_le h.1 hb.size, (hb.cell h.1).trans h.2⟩
theorem hx_load1 {a : Act} {o : Oper} (t : TypeId) (x : Operand) (ho : o.op = .load t x) (ad : Addr) (hx : a.eval x = .pointer (some ad)) (W : World) (v : Value) (hg : (isAgg t).run Tryd.prog W = .ok false W) (hc : W.cell? ad = some v) : (execOp a.eval o).run Tryd.prog W = .ok (.value v) W := by
  unfold execOp
  simp [ho, hx, Instr.loadAt, Instr.sureAddr, loadVar, hg, hc]
def SizeAt (W : World) (n : Nat) : Prop := n ≤ W.heap.size
theorem SizeAt.keep {W V : World} {n : Nat} (h : SizeAt W n) (hb : Below W.heap.size W V) : SizeAt V n := Nat.le_trans h hb.size
theorem one_cell {W : World} {g : Nat} {z : Int} {t : TypeId} (h : W.heap[g]? = some (.cells #[.int .u8 z] t (0, 0))) : ∀ j u, [Value.int .u8 z][j]? = some u → W.cell? ((⟨g, 0, none⟩ : Addr).add j) = some u := by
  intro j u hu
  have hj : j = 0 := by
    have := (List.getElem?_eq_some_iff.1 hu).1
    simp at this
    exact this
  subst hj
  simp at hu
  subst hu
  rw [addr_add]
  simp only [World.cell?, h]
  rfl
theorem sby_at (K nonce : List B) (q pl i : Nat) (h : 16 * q + pl = i) (hp : pl < 16) : sby K nonce i = gb (enc K (ctr nonce q)) pl := by
  rw [sby, show i / 16 = q by omega, show i % 16 = pl by omega]

end Go.Proofs.YtamieopjigjfiabDoor

