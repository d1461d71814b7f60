import Derived.Test.YtjoohgkgkabbpaaGreatDoorXQa7
import Derived.Recover
import Derived.Defers
import Derived.Test.YtjoohgkgkabbpaaGreatDoorXQa1
import Derived.Test.YtjoohgkgkabbpaaGreatDoorXQa3
import Derived.Test.YtjoohgkgkabbpaaGreatDoorProg
import Derived.WalkKit
import Derived.WalkSpells
import Derived.WalkLawsBesides
import Derived.Lib.QuietBelow
import Derived.Laws.BitsAllLaws
import Derived.BigQuiet
import Derived.WalkMore
import Derived.Test.YtjoohgkgkabbpaaGreatDoorXOpen
import Derived.Test.YtjoohgkgkabbpaaGreatDoorXUn
namespace Go.Proofs.YtjoohgkgkabbpaaGreatDoor
set_option maxRecDepth 100000
open Go Go.RowKit Go.Sort
attribute [local go_sem] setCell_drewN alloc_drewN
def rdv (no wt : Int) (k1 k2 k3 : FuncId) (a1 a2 a3 : Array Value) : Array Value := #[.int .i64 no, .int .i64 wt, .func (.func k1) #[] a1, .func (.func k2) #[] a2, .func (.func k3) #[] a3]
def BxS (W : World) (S : Nat → Prop) (g : Nat) (c : Array Value) : Prop := S g ∧ Bx W g c
def PlC (W : World) (S : Nat → Prop) (no wt : Int) (k : FuncId) (cs row : Array Value) : Prop := ∃ g0 g1 g2 g4 gs, row = rdv no wt 157 158 159 #[ptr g4, ptr g0, ptr g2] #[ptr g0, ptr g1] #[ptr g2] ∧ BxS W S g0 #[.int .i64 no] ∧ BxS W S g1 #[.int .i64 wt] ∧ BxS W S g2 #[.func (.func k) #[] #[ptr gs]] ∧ BxS W S g4 #[.bool (wt == 2)] ∧ BxS W S gs cs
def InC (W : World) (S : Nat → Prop) (no : Int) (x : Value) (row : Array Value) : Prop := ∃ g0 g1, row = rdv no 2 166 167 168 #[ptr g1] #[ptr g0, ptr g1] #[ptr g1] ∧ BxS W S g0 #[.int .i64 no] ∧ BxS W S g1 #[x]
def LiC (W : World) (S : Nat → Prop) (no l m : Int) (x : Value) (row : Array Value) : Prop := ∃ g0 g1 g2 y, row = rdv no 2 170 172 174 #[ptr g0, ptr g1, ptr g2] #[ptr g0, ptr g2] #[ptr g1, ptr g2] ∧ BxS W S g0 #[.int .i64 no] ∧ BxS W S g1 #[.int .u64 l, .int .u64 m, y] ∧ BxS W S g2 #[x]
def SlC (W : World) (S : Nat → Prop) (t : Slt) (x : Value) (row : Array Value) : Prop :=
 (t.kind = 1 ∧ PlC W S t.no 0 141 #[.int .i64 0, .int .u64 (t.least : Int), .int .u64 (t.most : Int)] row) ∨
 (t.kind = 2 ∧ PlC W S t.no 5 141 #[.int .i64 5, .int .u64 (t.least : Int), .int .u64 (t.most : Int)] row) ∨
 (t.kind = 3 ∧ PlC W S t.no 1 141 #[.int .i64 1, .int .u64 (t.least : Int), .int .u64 (t.most : Int)] row) ∨
 (t.kind = 4 ∧ PlC W S t.no 0 141 #[.int .i64 0, .int .u64 0, .int .u64 1] row) ∨
 ((t.kind = 5 ∨ t.kind = 6) ∧ PlC W S t.no 2 145 #[.int .u64 (t.least : Int), .int .u64 (t.most : Int), .bool (t.kind == 6)] row) ∨
 (t.kind = 7 ∧ PlC W S t.no 1 143 #[.float .f64 (floatOfInt .f64 (t.most : Int))] row) ∨
 (t.kind = 8 ∧ InC W S t.no x row) ∨
 (t.kind = 9 ∧ LiC W S t.no (t.least : Int) (t.most : Int) x row)
inductive RdL (W : World) (S : Nat → Prop) : Value → List Slt → Prop
 | mk (ao : Option Addr) (cap : Nat) (ts : List Slt) (rows : Nat → Array Value) (us : Nat → Value) (hl : ts.length ≤ 16) (hc : ts.length ≤ cap) (hn : ao = none → cap = 0)
  (h : ∀ i, i < ts.length → ∃ b, ao = some ⟨b, 0, none⟩ ∧ b < W.heap.size ∧ S b ∧ W.rangeAt b (i * 5) (rows i).toList ∧ SlC W S (gs ts i) (us i) (rows i))
  (hs : ∀ i, i < ts.length → nst (gs ts i) → RdL W S (us i) (gs ts i).sub) : RdL W S (.slice ao ts.length cap) ts
theorem Bx.same {W V : World} {g : Nat} {c : Array Value} (h : Bx W g c) (hb : V.heap[g]? = W.heap[g]?) : Bx V g c := by
 obtain ⟨T, h⟩ := h
 exact ⟨T, hb.trans h⟩
theorem Bx.lt {W : World} {g : Nat} {c : Array Value} (h : Bx W g c) : g < W.heap.size := by
 obtain ⟨T, h⟩ := h
 exact lt_of_row h
def Sty (W V : World) (S T : Nat → Prop) : Prop := W.heap.size ≤ V.heap.size ∧ ∀ b, b < W.heap.size → S b → V.heap[b]? = W.heap[b]? ∧ T b
theorem BxS.keep {W V : World} {S T : Nat → Prop} {g : Nat} {c : Array Value} (h : BxS W S g c) (hk : Sty W V S T) : BxS V T g c := ⟨(hk.2 g h.2.lt h.1).2, h.2.same (hk.2 g h.2.lt h.1).1⟩
theorem PlC.keep {W V : World} {S T : Nat → Prop} {no wt : Int} {k : FuncId} {cs row : Array Value} (h : PlC W S no wt k cs row) (hk : Sty W V S T) : PlC V T no wt k cs row := by
 obtain ⟨g0, g1, g2, g4, gs, e, h0, h1, h2, h4, h5⟩ := h
 exact ⟨g0, g1, g2, g4, gs, e, h0.keep hk, h1.keep hk, h2.keep hk, h4.keep hk, h5.keep hk⟩
theorem InC.keep {W V : World} {S T : Nat → Prop} {no : Int} {x : Value} {row : Array Value} (h : InC W S no x row) (hk : Sty W V S T) : InC V T no x row := by
 obtain ⟨g0, g1, e, h0, h1⟩ := h
 exact ⟨g0, g1, e, h0.keep hk, h1.keep hk⟩
theorem LiC.keep {W V : World} {S T : Nat → Prop} {no l m : Int} {x : Value} {row : Array Value} (h : LiC W S no l m x row) (hk : Sty W V S T) : LiC V T no l m x row := by
 obtain ⟨g0, g1, g2, y, e, h0, h1, h2⟩ := h
 exact ⟨g0, g1, g2, y, e, h0.keep hk, h1.keep hk, h2.keep hk⟩
theorem SlC.keep {W V : World} {S T : Nat → Prop} {t : Slt} {x : Value} {row : Array Value} (h : SlC W S t x row) (hk : Sty W V S T) : SlC V T t x row := by
 rcases h with ⟨e, h⟩ | ⟨e, h⟩ | ⟨e, h⟩ | ⟨e, h⟩ | ⟨e, h⟩ | ⟨e, h⟩ | ⟨e, h⟩ | ⟨e, h⟩
 ·exact .inl ⟨e, h.keep hk⟩
 ·exact .inr (.inl ⟨e, h.keep hk⟩)
 ·exact .inr (.inr (.inl ⟨e, h.keep hk⟩))
 ·exact .inr (.inr (.inr (.inl ⟨e, h.keep hk⟩)))
 ·exact .inr (.inr (.inr (.inr (.inl ⟨e, h.keep hk⟩))))
 ·exact .inr (.inr (.inr (.inr (.inr (.inl ⟨e, h.keep hk⟩)))))
 ·exact .inr (.inr (.inr (.inr (.inr (.inr (.inl ⟨e, h.keep hk⟩))))))
 ·exact .inr (.inr (.inr (.inr (.inr (.inr (.inr ⟨e, h.keep hk⟩))))))
theorem RdL.keep {W V : World} {S T : Nat → Prop} {v : Value} {ts : List Slt} (h : RdL W S v ts) (hk : Sty W V S T) : RdL V T v ts := by
 induction h with
 | mk ao cap ts rows us hl hc hn h hs ih =>
  refine .mk ao cap ts rows us hl hc hn (fun i hi => ?_) ih
  obtain ⟨b, h1, h2, h3, h4, h5⟩ := h i hi
  exact ⟨b, h1, Nat.lt_of_lt_of_le h2 hk.1, (hk.2 b h2 h3).2, range_same h4 (hk.2 b h2 h3).1, h5.keep hk⟩
theorem Sty.below {W V : World} {S : Nat → Prop} (h : Below W.heap.size W V) : Sty W V S S := ⟨h.size, fun b hb hS => ⟨h.block b hb, hS⟩⟩
theorem RdL.form {W : World} {S : Nat → Prop} {v : Value} {ts : List Slt} (h : RdL W S v ts) : ∃ ao cap, v = .slice ao ts.length cap := by
 cases h with
 | mk ao cap ts rows us hl hc hn h hs => exact ⟨ao, cap, rfl⟩
theorem rdv_form {W : World} {S : Nat → Prop} {t : Slt} {x : Value} {row : Array Value} (h : SlC W S t x row) : ∃ wt k1 k2 k3 a1 a2 a3, row = rdv t.no wt k1 k2 k3 a1 a2 a3 := by
 rcases h with ⟨e, h⟩ | ⟨e, h⟩ | ⟨e, h⟩ | ⟨e, h⟩ | ⟨e, h⟩ | ⟨e, h⟩ | ⟨e, h⟩ | ⟨e, h⟩
 all_goals first
  | (obtain ⟨g0, g1, g2, g4, gs, e, _⟩ := h; exact ⟨_, _, _, _, _, _, _, e⟩)
  | (obtain ⟨g0, g1, e, _⟩ := h; exact ⟨_, _, _, _, _, _, _, e⟩)
  | (obtain ⟨g0, g1, g2, y, e, _⟩ := h; exact ⟨_, _, _, _, _, _, _, e⟩)
theorem Bx.row {w4 : World} {g n : Nat} {cs c : Array Value} (h : Bx w4 n c) (hne : n ≠ g) : Bx (w4.setRow g cs) n c := h.same (setRow_other w4 g n cs hne)
theorem a_ready_any {t : Slt} {u : Value} (hfit : sfit t = true) (hFl : Flt t u) (w : World) (hu : nst t → ∃ so sn sc, u = .slice so sn sc)
 (hC : nst t → ∀ V, Below w.heap.size w V → Calls Tryz.prog 100 #[u] V fun e w' => ∃ v, e = .returned v ∧ (∃ xo xn xc, v = .slice xo xn xc) ∧ Below V.heap.size V w' ∧ RdL w' (fun b => V.heap.size ≤ b) v t.sub) :
 Calls Tryz.prog 123 #[.agg #[.int .i64 t.no, shp t u]] w fun e w' => ∃ row x, e = .returned (.agg row) ∧ Below w.heap.size w w' ∧ SlC w' (fun b => w.heap.size ≤ b) t x row ∧ (nst t → RdL w' (fun b => w.heap.size ≤ b) x t.sub) := by
 have hc := fit_cases (show fitN t.kind (t.least : Int) (t.most : Int) t.sub.length = true from hfit)
 have key : ∀ x, shp t u = x → (Calls Tryz.prog 123 #[.agg #[.int .i64 t.no, x]] w fun e w' => ∃ row x, e = .returned (.agg row) ∧ Below w.heap.size w w' ∧ SlC w' (fun b => w.heap.size ≤ b) t x row ∧ (nst t → RdL w' (fun b => w.heap.size ≤ b) x t.sub)) → (Calls Tryz.prog 123 #[.agg #[.int .i64 t.no, shp t u]] w fun e w' => ∃ row x, e = .returned (.agg row) ∧ Below w.heap.size w w' ∧ SlC w' (fun b => w.heap.size ≤ b) t x row ∧ (nst t → RdL w' (fun b => w.heap.size ≤ b) x t.sub)) := fun x e h => by rw [e]; exact h
 have nn : ∀ k, t.kind = k → k ≠ 8 → k ≠ 9 → ∀ P : Prop, nst t → P := fun k e h8 h9 P hn => by
  rcases hn with q | q <;> omega
 have le : ∀ k : Nat, w.heap.size ≤ w.heap.size + k := fun k => Nat.le_add_right _ _
 rcases hc with ⟨hk, _⟩ | ⟨hk, _⟩ | ⟨hk, _⟩ | hk | ⟨hk, _⟩ | hk | hk | ⟨hk, _⟩
 ·exact key _ (by unfold shp; rw [hk]; rfl) ((a_ready_num _ _ _ _ w).mono fun e w' ⟨h1, h2, h3, h4, h5, h6, h7⟩ => ⟨_, undef, h1, h2, .inl ⟨hk, _, _, _, _, _, rfl, ⟨by omega, h4⟩, ⟨by omega, h5⟩, ⟨by omega, h6⟩, ⟨by omega, h7⟩, ⟨by omega, h3⟩⟩, nn _ hk (by decide) (by decide) _⟩)
 ·exact key _ (by unfold shp; rw [hk]; rfl) ((a_ready_num _ _ _ _ w).mono fun e w' ⟨h1, h2, h3, h4, h5, h6, h7⟩ => ⟨_, undef, h1, h2, .inr (.inl ⟨hk, _, _, _, _, _, rfl, ⟨by omega, h4⟩, ⟨by omega, h5⟩, ⟨by omega, h6⟩, ⟨by omega, h7⟩, ⟨by omega, h3⟩⟩), nn _ hk (by decide) (by decide) _⟩)
 ·exact key _ (by unfold shp; rw [hk]; rfl) ((a_ready_num _ _ _ _ w).mono fun e w' ⟨h1, h2, h3, h4, h5, h6, h7⟩ => ⟨_, undef, h1, h2, .inr (.inr (.inl ⟨hk, _, _, _, _, _, rfl, ⟨by omega, h4⟩, ⟨by omega, h5⟩, ⟨by omega, h6⟩, ⟨by omega, h7⟩, ⟨by omega, h3⟩⟩)), nn _ hk (by decide) (by decide) _⟩)
 ·exact key _ (by unfold shp; rw [hk]; rfl) ((a_ready_num _ _ _ _ w).mono fun e w' ⟨h1, h2, h3, h4, h5, h6, h7⟩ => ⟨_, undef, h1, h2, .inr (.inr (.inr (.inl ⟨hk, _, _, _, _, _, rfl, ⟨by omega, h4⟩, ⟨by omega, h5⟩, ⟨by omega, h6⟩, ⟨by omega, h7⟩, ⟨by omega, h3⟩⟩))), nn _ hk (by decide) (by decide) _⟩)
 ·rcases hk with hk | hk
  ·exact key (.iface 241 (.agg #[.int .u64 (t.least : Int), .int .u64 (t.most : Int), .bool false])) (by unfold shp; rw [hk]; rfl) ((a_ready_oct t.no (t.least : Int) (t.most : Int) false w).mono fun e w' ⟨h1, h2, h3, h4, h5, h6, h7⟩ => ⟨_, undef, h1, h2, .inr (.inr (.inr (.inr (.inl ⟨.inl hk, _, _, _, _, _, rfl, ⟨by omega, h4⟩, ⟨by omega, h5⟩, ⟨by omega, h6⟩, ⟨by omega, h7⟩, ⟨by omega, by rw [hk]; exact h3⟩⟩)))), nn _ hk (by decide) (by decide) _⟩)
  ·exact key (.iface 241 (.agg #[.int .u64 (t.least : Int), .int .u64 (t.most : Int), .bool true])) (by unfold shp; rw [hk]; rfl) ((a_ready_oct t.no (t.least : Int) (t.most : Int) true w).mono fun e w' ⟨h1, h2, h3, h4, h5, h6, h7⟩ => ⟨_, undef, h1, h2, .inr (.inr (.inr (.inr (.inl ⟨.inr hk, _, _, _, _, _, rfl, ⟨by omega, h4⟩, ⟨by omega, h5⟩, ⟨by omega, h6⟩, ⟨by omega, h7⟩, ⟨by omega, by rw [hk]; exact h3⟩⟩)))), nn _ hk (by decide) (by decide) _⟩)
 ·have hu7 := hFl hk
  subst hu7
  exact key _ (by unfold shp; rw [hk]; rfl) ((a_ready_flt _ _ w).mono fun e w' ⟨h1, h2, h3, h4, h5, h6, h7⟩ => ⟨_, undef, h1, h2, .inr (.inr (.inr (.inr (.inr (.inl ⟨hk, _, _, _, _, _, rfl, ⟨by omega, h4⟩, ⟨by omega, h5⟩, ⟨by omega, h6⟩, ⟨by omega, h7⟩, ⟨by omega, h3⟩⟩))))), nn _ hk (by decide) (by decide) _⟩)
 ·obtain ⟨so, sn, sc, rfl⟩ := hu (.inl hk)
  refine key _ (by unfold shp; rw [hk]; rfl) ((a_ready_msg (fun v V => RdL V (fun b => w.heap.size + 1 + 1 ≤ b) v t.sub) (fun v V V' h hb => h.keep (Sty.below hb)) _ so sn sc w (fun V hV hz => (hC (.inl hk) V hV).mono fun e w' ⟨v, h1, h2, h3, h4⟩ => ⟨v, h1, h2, h3, h4.keep ⟨Nat.le_refl _, fun b _ hb => ⟨rfl, Nat.le_trans hz hb⟩⟩⟩)).mono fun e w' ⟨n, x, w4, h0, h1, h2, h3, h4, h5, h6, h7⟩ => ?_)
  refine ⟨_, x, h1, h2, .inr (.inr (.inr (.inr (.inr (.inr (.inl ⟨hk, _, _, rfl, ⟨by omega, h3⟩, ⟨by omega, h4⟩⟩)))))), fun _ => ?_⟩
  rw [h7]
  exact h5.keep ⟨by simp, fun b _ hb => ⟨setRow_other _ _ _ _ (by omega), by omega⟩⟩
 ·obtain ⟨so, sn, sc, rfl⟩ := hu (.inr hk)
  refine key _ (by unfold shp; rw [hk]; rfl) ((a_ready_lst (fun v V => RdL V (fun b => w.heap.size + 1 + 1 ≤ b) v t.sub) (fun v V V' h hb => h.keep (Sty.below hb)) t.no (t.least : Int) (t.most : Int) so sn sc w (fun V hV hz => (hC (.inr hk) V hV).mono fun e w' ⟨v, h1, h2, h3, h4⟩ => ⟨v, h1, h2, h3, h4.keep ⟨Nat.le_refl _, fun b _ hb => ⟨rfl, Nat.le_trans hz hb⟩⟩⟩)).mono fun e w' ⟨n, x, w4, h0, h1, h2, h3, h3b, h4, h5, h6, h7⟩ => ?_)
  refine ⟨_, x, h1, h2, .inr (.inr (.inr (.inr (.inr (.inr (.inr ⟨hk, _, _, _, _, rfl, ⟨by omega, h3⟩, ⟨by omega, h3b⟩, ⟨by omega, h4⟩⟩)))))), fun _ => ?_⟩
  rw [h7]
  exact h5.keep ⟨by simp, fun b _ hb => ⟨setRow_other _ _ _ _ (by omega), by omega⟩⟩
end Go.Proofs.YtjoohgkgkabbpaaGreatDoor
namespace Go.Proofs.YtjoohgkgkabbpaaGreatDoor
set_option maxRecDepth 100000
open Go Go.RowKit Go.Sort
attribute [local go_sem] setCell_drewN alloc_drewN
theorem infoStI : ∃ i, Tryz.prog.info? 166 = some i ∧ i.zero = some (.agg #[.int .i64 0, .int .i64 0, .nilFunc, .nilFunc, .nilFunc]) ∧ i.size = 5 ∧ i.bytes = 40 := ⟨_, rfl, rfl, rfl, rfl⟩
theorem wpList_append_st {w : World} {ops : Array Oper} {rest : List Oper} {o : Oper} {a : Act} {Q : Exit → Act → World → Prop} (hgd : o.guard = none) (s x : Operand)
 (ho : o.op = .call { callee := .builtin .append, args := #[s, x], argTypes := #[118, 118] })
 (base : Nat) (v : Value) (k : Nat) (xs : List Value) (hs : a.eval s = v) (hO : w.ownsRow base 166 5 v k xs) (hk : k ≤ 100)
 (cs : List Value) (hcl : cs.length = 5) (g : Nat) (hx : a.eval x = .slice (some ⟨g, 0, none⟩) 1 1) (hnews : ∀ j y, cs[j]? = some y → w.cell? ((⟨g, 0, none⟩ : Addr).add j) = some y) (h1 : ∀ u ∈ cs, u.oneCell' = true)
 (hbase : base ≤ w.heap.size)
 (h : ∀ v' w', w'.ownsRow base 166 5 v' (k + 1) (xs ++ cs) → w.grownBy w' v.ownBlock → Nx w v v' → wpList Tryz.prog ops Q rest (a.put o.dst v') w') : wpList Tryz.prog ops Q (o :: rest) a w := by
 obtain ⟨i0, hi, hz0, hz1, hz2⟩ := infoStI
 exact wpList_plain hgd fun _ hK => wp_append_nx s x 118 ho base 166 i0 (.agg #[.int .i64 0, .int .i64 0, .nilFunc, .nilFunc, .nilFunc]) 5 40 Tryz.underlying118 hi hz0 hz1 hz2 rfl (by decide) v k xs hs hO ⟨g, 0, none⟩ 1 1 cs hx (by rw [hcl]) hnews h1 (by unfold maxLen; omega) (by omega) hbase (fun v' w' h2 h3 h4 => hK _ _ (h v' w' h2 h3 h4))
def rws (rows : Nat → Array Value) : Nat → List Value
 | 0 => []
 | k + 1 => rws rows k ++ (rows k).toList
theorem rws_len {rows : Nat → Array Value} : ∀ k, (∀ i, i < k → (rows i).size = 5) → (rws rows k).length = k * 5
 | 0, _ => rfl
 | k + 1, h => by
  rw [rws, List.length_append, rws_len k (fun i hi => h i (by omega))]
  have := h k (by omega)
  simp [this]
  omega
theorem rws_at {rows : Nat → Array Value} : ∀ (k i j : Nat), (∀ i, i < k → (rows i).size = 5) → i < k → j < 5 → (rws rows k)[i * 5 + j]? = (rows i).toList[j]?
 | 0, i, j, _, h, _ => by omega
 | k + 1, i, j, h, hi, hj => by
  have hl := rws_len k (fun i hi => h i (by omega))
  rw [rws]
  rcases Nat.lt_or_ge i k with q | q
  ·rw [List.getElem?_append_left (by omega)]
   exact rws_at k i j (fun i hi => h i (by omega)) q hj
  ·obtain rfl : i = k := by omega
   rw [List.getElem?_append_right (by omega), hl]
   congr 1
   omega
def RdI (W : World) (S : Nat → Prop) (ts : List Slt) (rows : Nat → Array Value) (us : Nat → Value) (k : Nat) : Prop := ∀ i, i < k → SlC W S (gs ts i) (us i) (rows i) ∧ (nst (gs ts i) → RdL W S (us i) (gs ts i).sub)
theorem RdI.keep {W V : World} {S T : Nat → Prop} {ts : List Slt} {rows : Nat → Array Value} {us : Nat → Value} {k : Nat} (h : RdI W S ts rows us k) (hk : Sty W V S T) : RdI V T ts rows us k := fun i hi => ⟨(h i hi).1.keep hk, fun hn => ((h i hi).2 hn).keep hk⟩
theorem rdv_size {W : World} {S : Nat → Prop} {t : Slt} {x : Value} {row : Array Value} (h : SlC W S t x row) : row.size = 5 := by
 obtain ⟨_, _, _, _, _, _, _, rfl⟩ := rdv_form h
 rfl
theorem RdL.of {W : World} {base : Nat} {ts : List Slt} {rows : Nat → Array Value} {us : Nat → Value} {v : Value} (hl : ts.length ≤ 16) (h : RdI W (fun b => base ≤ b ∧ v.ownBlock ≠ some b) ts rows us ts.length) (hO : W.ownsRow base 166 5 v ts.length (rws rows ts.length)) : RdL W (fun b => base ≤ b) v ts := by
 have hsz : ∀ i, i < ts.length → (rows i).size = 5 := fun i hi => rdv_size (h i hi).1
 have hk : RdI W (fun b => base ≤ b) ts rows us ts.length := h.keep ⟨Nat.le_refl _, fun b _ hb => ⟨rfl, hb.1⟩⟩
 have hcl := fun g hg => hO.cells (g := g) hg
 obtain ⟨q1, ⟨hv, h0⟩ | ⟨g, cap, cur, hv, hb, hg, hn, hm, hs, ht⟩⟩ := hO
 ·subst hv
  have e0 : ts = [] := List.eq_nil_of_length_eq_zero h0
  subst e0
  exact RdL.mk none 0 [] rows us (by simp) (by simp) (fun _ => rfl) (fun i hi => by simp at hi) (fun i hi => by simp at hi)
 ·subst hv
  refine RdL.mk (some ⟨g, 0, none⟩) cap ts rows us hl hn (fun e => by cases e) (fun i hi => ⟨g, rfl, lt_of_row hg, hb, ?_, (hk i hi).1⟩) (fun i hi hnn => (hk i hi).2 hnn)
  intro j x hx
  have hj : j < 5 := by
   have := (List.getElem?_eq_some_iff.1 hx).1
   have := hsz i hi
   simp at *
   omega
  have := hcl g rfl (i * 5 + j) x (by rw [rws_at _ _ _ hsz hi hj]; exact hx)
  rw [add_off] at this
  rw [← this]
end Go.Proofs.YtjoohgkgkabbpaaGreatDoor
namespace Go.Proofs.YtjoohgkgkabbpaaGreatDoor
set_option maxRecDepth 100000
open Go Go.RowKit Go.Sort
attribute [local go_sem] setCell_drewN alloc_drewN
theorem rws_congr {f g : Nat → Array Value} : ∀ k, (∀ i, i < k → f i = g i) → rws f k = rws g k
 | 0, _ => rfl
 | k + 1, h => by rw [rws, rws, rws_congr k (fun i hi => h i (by omega)), h k (by omega)]
set_option maxRecDepth 100000 in
set_option maxHeartbeats 16000000 in
theorem a_compile {W : World} {S : Nat → Prop} {v : Value} {ts : List Slt} (h : MsgL W S v ts) : gd ts → ∀ w, Below W.heap.size W w → Calls Tryz.prog 100 #[v] w fun e w' => ∃ v', e = .returned v' ∧ (∃ xo xn xc, v' = .slice xo xn xc) ∧ Below w.heap.size w w' ∧ RdL w' (fun b => w.heap.size ≤ b) v' ts := by
 induction h with
 | mk ao cap ts us hl hc h hs ih =>
  intro hgd w hw
  go_enter Tryz.func100, Tryz.ntmps100
  go_wp2_with (fail)
  go_loopw [3, 8] (fun out i wr => ∃ (k : Nat) (rows : Nat → Array Value) (xs : Nat → Value), k ≤ ts.length ∧ i = .int .i64 k ∧ Below w.heap.size w wr ∧ wr.ownsRow w.heap.size 166 5 out k (rws rows k) ∧ RdI wr (fun b => w.heap.size ≤ b ∧ out.ownBlock ≠ some b) ts rows xs k) (fun _ i _ => ts.length - (intOf i).toNat)
  case atStart => exact ⟨0, fun _ => #[], fun _ => undef, by omega, rfl, Below.refl _ _, ⟨rfl, .inl ⟨rfl, rfl⟩⟩, fun i hi => by omega⟩
  case round =>
   obtain ⟨k, rows, xs, hk, rfl, hb, hO, hI⟩ := hrel
   obtain ⟨mo, mc, rfl⟩ := own_slice hO
   have hww := Below.after hw hb
   by_cases hlt : k < ts.length
   ·have hd : decide ((k : Int) < (ts.length : Int)) = true := by simp; omega
    have hk1 : 0 ≤ (k : Int) ∧ (k : Int) < (ts.length : Int) := by omega
    obtain ⟨b, off, hao, hbl, _, hra, hok, hFl⟩ := h k hlt
    obtain ⟨_, hfit, hsubg⟩ := gd_at ts k hlt hgd
    have hform : nst (gs ts k) → ∃ so sn sc, gvs us k = .slice so sn sc := fun hn => (hs k hlt hn).form.elim fun _ q => q.elim fun _ q => ⟨_, _, _, q⟩
    have hih := fun hn => ih k hlt hn (hsubg hn)
    subst hao
    have hrw := rangeS_keep2 hra hww hbl
    have y0 : wr.cell? ⟨b, off + k * 2, none⟩ = _ := hrw 0 _ rfl
    have y1 : wr.cell? ⟨b, off + k * 2 + 1, none⟩ = _ := hrw 1 _ rfl
    have cR := fun V hV => a_ready_any (t := gs ts k) hfit hFl V hform (fun hn V' hV' => hih hn V' (Below.after (Below.after hww hV) hV'))
    obtain ⟨T, c, hsh⟩ := shp_iface (gs ts k) (gvs us k)
    rw [hsh] at y1 cR
    generalize hno : (gs ts k).no = no at *
    replace hno := hide hno
    clear h hs ih hra hrw hFl hfit hsubg hform hih hsh hok
    have hba : Below wr.heap.size wr (wr.alloc (.cells #[.int .i64 no, .iface T c] 218)) := (Below.refl _ _).alloc (Nat.le_refl _) _
    have cR1 := cR _ hba
    have A1 := hide hba
    have A2 := hide hb
    have A3 := hide hO
    have A7 := hide hI
    clear cR hba hb hO hww hI
    go_wp2_with (fail)
    generalize wr.alloc (.cells #[.int .i64 no, .iface T c] 218) = w1 at *
    refine cR1.mono ?_
    rintro e_ w2 ⟨row, x, rfl, hb2, hSl, hRd⟩
    clear cR1
    obtain ⟨wt, k1, k2, k3, a1, a2, a3, hrow⟩ := rdv_form hSl
    rw [hno.out] at hrow
    have hI2 : RdI w2 (fun b => w.heap.size ≤ b ∧ (Value.slice mo k mc).ownBlock ≠ some b ∧ b < w2.heap.size) ts (fun i => if i = k then row else rows i) (fun i => if i = k then x else xs i) (k + 1) := fun i hi => by
     have hs1 := A1.out.size
     have hs2 := hb2.size
     rcases Nat.lt_or_ge i k with q | q
     ·have hne : i ≠ k := by omega
      simp only [if_neg hne]
      have hst : Sty wr w2 (fun b => w.heap.size ≤ b ∧ (Value.slice mo k mc).ownBlock ≠ some b) (fun b => w.heap.size ≤ b ∧ (Value.slice mo k mc).ownBlock ≠ some b ∧ b < w2.heap.size) := ⟨by omega, fun b h1 h2 => ⟨(Below.after A1.out hb2).block b h1, h2.1, h2.2, by omega⟩⟩
      exact ⟨((A7.out i q).1).keep hst, fun hn => ((A7.out i q).2 hn).keep hst⟩
     ·obtain rfl : i = k := by omega
      simp only [if_true]
      have hst : Sty w2 w2 (fun b => w1.heap.size ≤ b) (fun b => w.heap.size ≤ b ∧ (Value.slice mo i mc).ownBlock ≠ some b ∧ b < w2.heap.size) := ⟨Nat.le_refl _, fun b h1 h2 => ⟨rfl, by have := A2.out.size; omega, fun e => by have := (own_lt A3.out b e).2; omega, h1⟩⟩
      exact ⟨hSl.keep hst, fun hn => (hRd hn).keep hst⟩
    have hrw2 : rws rows k ++ row.toList = rws (fun i => if i = k then row else rows i) (k + 1) := by
     rw [rws, if_pos rfl]
     congr 1
     exact rws_congr k fun i hi => (if_neg (by omega)).symm
    subst hrow
    have hbb := Below.after A1.out hb2
    have A8 := hide hI2
    clear hI2 hSl hRd A7
    have hB := Below.after A2.out hbb
    have hO2 := own_but (w' := w2) A3.out fun q hq => hbb.block q (own_lt A3.out q hq).2
    unfold rdv
    have cN1 := hp1_0 w2 (.cells (rdv no wt k1 k2 k3 a1 a2 a3) 166)
    have hnc : ∀ j y, (rdv no wt k1 k2 k3 a1 a2 a3).toList[j]? = some y → (w2.alloc (.cells (rdv no wt k1 k2 k3 a1 a2 a3) 166)).cell? ((⟨w2.heap.size, 0, none⟩ : Addr).add j) = some y := fun j y hy => by
     rw [add_off, cell_of_row _ _ _ _ _ _ cN1]
     simpa using hy
    have hba2 : Below w2.heap.size w2 (w2.alloc (.cells (rdv no wt k1 k2 k3 a1 a2 a3) 166)) := (Below.refl _ _).alloc (Nat.le_refl _) _
    have hO3 := own_but (w' := w2.alloc (.cells (rdv no wt k1 k2 k3 a1 a2 a3) 166)) hO2 fun q hq => hba2.block q (own_lt hO2 q hq).2
    have hone : ∀ x ∈ (rdv no wt k1 k2 k3 a1 a2 a3).toList, x.oneCell' = true := fun x hx => by
     simp [rdv] at hx
     rcases hx with rfl | rfl | rfl | rfl | rfl <;> rfl
    have hsz2 := hB.size
    unfold rdv at hnc hO3 hba2 hone
    have A4 := hide hB
    have A5 := hide hba2
    have A6 := hide hO2
    clear hB hba2 hO2 cN1 A1 A2 A3 hb2 hbb y0 y1
    go_wp2_with (first | (at_builtin; refine wpList_append_st rfl (.tmp 12) (.tmp 15) rfl w.heap.size _ k _ rfl hO3 (by omega) _ rfl w2.heap.size rfl hnc hone (by rw [size_alloc1]; omega) ?_) | fail)
    intro v' w3 h1 h2 h3
    have hB3 : Below w.heap.size w w3 := by
     refine (A4.out.trans (A5.out.mono hsz2)).grown h2 (by rw [size_alloc1]; omega) (fun q hq => ?_)
     exact (own_lt A6.out q hq).1
    have hI3 : RdI w3 (fun b => w.heap.size ≤ b ∧ v'.ownBlock ≠ some b) ts _ _ (k + 1) := A8.out.keep ⟨by have := h2.size; rw [size_alloc1] at this; omega, fun b h4 h5 => by
     have e1 := h2.block b (by rw [size_alloc1]; omega) (fun e => h5.2.1 e.symm)
     refine ⟨e1.trans (A5.out.block b h4), h5.1, fun e => ?_⟩
     rcases h3 with e2 | ⟨q, e2, hq⟩
     ·exact h5.2.1 (e2.symm.trans e)
     ·rw [e2] at e
      injection e with e
      rw [size_alloc1] at hq
      omega⟩
    replace h1 : w3.ownsRow w.heap.size 166 5 v' (k + 1) (rws (fun i => if i = k then rdv no wt k1 k2 k3 a1 a2 a3 else rows i) (k + 1)) := by rw [← hrw2]; exact h1
    replace hI3 := hide hI3
    clear A8 hrw2
    obtain ⟨no', co', hv'⟩ := own_slice h1
    subst hv'
    clear h2 h3 hO3 hnc hone A4 A5 A6
    go_wp2_with (fail)
    refine ⟨⟨k + 1, _, _, by omega, by go_num, hB3, h1, hI3.out⟩, ?_⟩
    simp [intOf]; omega
   ·have hd : decide ((k : Int) < (ts.length : Int)) = false := by simp; omega
    clear h hs ih
    go_wp2_with (fail)
    go_ret
    obtain rfl : k = ts.length := by omega
    exact ⟨_, rfl, ⟨_, _, _, rfl⟩, hb, RdL.of hl hI hO⟩
end Go.Proofs.YtjoohgkgkabbpaaGreatDoor
namespace Go.Proofs.YtjoohgkgkabbpaaGreatDoor
set_option maxRecDepth 100000
open Go Go.RowKit Go.Sort
attribute [local go_sem] setCell_drewN alloc_drewN
structure Flt3 where
 line : Int
 at_ : Int
 why : Int
def frw (f : Flt3) : Array Value := #[.int .i64 f.line, .int .i64 f.at_, .int .i64 f.why]
def Gup (base : Nat) (f : Option Flt3) (e : Ending) (w' : World) (P : Value → Prop) : Prop :=
 match f with
 | none => ∃ v, e = .returned v ∧ P v
 | some x => ∃ g, e = .panicked [{ v := .iface 87 (.pointer (some ⟨g, 0, none⟩)), recovered := false }] ∧ base ≤ g ∧ w'.heap[g]? = some (.cells (frw x) 35 (0, 0))
set_option maxRecDepth 100000 in
set_option maxHeartbeats 4000000 in
theorem a_giveUp (l a y : Int) (w : World) : Calls Tryz.prog 86 #[.int .i64 l, .int .i64 a, .int .i64 y] w fun e w' => Gup w.heap.size (some ⟨l, a, y⟩) e w' (fun _ => True) ∧ Below w.heap.size w w' := by
 have r0 := hp1_0 w (.cells #[.int .i64 l, .int .i64 a, .int .i64 y] 35)
 have hb : Below w.heap.size w (w.alloc (.cells #[.int .i64 l, .int .i64 a, .int .i64 y] 35)) := (Below.refl _ _).alloc (Nat.le_refl _) _
 go_enter Tryz.func86, Tryz.ntmps86
 go_wp2
 exact ⟨rfl, ⟨_, rfl, Nat.le_refl _, r0⟩, hb⟩
def wth (n l m : Int) : Int := if n < l ∨ m < n then 83 else 0
set_option maxRecDepth 100000 in
set_option maxHeartbeats 4000000 in
theorem a_within (n l m : Int) : Gives 142 #[.int .u64 n, .int .u64 l, .int .u64 m] (.int .i64 (wth n l m)) := by
 intro w
 go_enter Tryz.func142, Tryz.ntmps142
 rcases Int.lt_or_le n l with q | q
 ·have e : wth n l m = 83 := by unfold wth; rw [if_pos (.inl q)]
  have hd : decide (n < l) = true := by simpa using q
  rw [e]
  go_wp2
  go_ret
  exact ⟨rfl, Below.refl _ _⟩
 ·have hd : decide (n < l) = false := by simpa using q
  rcases Int.lt_or_le m n with q2 | q2
  ·have e : wth n l m = 83 := by unfold wth; rw [if_pos (.inr q2)]
   have hd2 : decide (n > m) = true := by simpa using q2
   rw [e]
   go_wp2
   go_ret
   exact ⟨rfl, Below.refl _ _⟩
  ·have e : wth n l m = 0 := by unfold wth; rw [if_neg (by omega)]
   have hd2 : decide (n > m) = false := by simpa using q2
   rw [e]
   go_wp2
   go_ret
   exact ⟨rfl, Below.refl _ _⟩
def vrw (n : Nat) (dv pv : Value) : Array Value := #[.int .u64 (n : Int), dv, pv]
set_option maxRecDepth 100000 in
set_option maxHeartbeats 4000000 in
theorem a_fitNum (n : Nat) (da : Option Addr) (dl dc : Nat) (pa : Option Addr) (pl pc : Nat) (wt l m : Int) (g : Nat) (w : World) (hg : Bx w g #[.int .i64 wt, .int .u64 l, .int .u64 m]) : Calls Tryz.prog 141 #[.agg (vrw n (.slice da dl dc) (.slice pa pl pc)), .pointer (some ⟨g, 0, none⟩)] w fun e w' => e = .returned (.int .i64 (wth (n : Int) l m)) ∧ Below w.heap.size w w' := by
 obtain ⟨T, hg⟩ := hg
 have hlt := lt_of_row hg
 have hne : ¬ w.heap.size = g := by omega
 have hne2 : ¬ g = w.heap.size := by omega
 have c1 : w.cell? ⟨g, 1, none⟩ = some (.int .u64 l) := by rw [cell_of_row _ _ _ _ _ _ hg]; rfl
 have c2 : w.cell? ⟨g, 2, none⟩ = some (.int .u64 m) := by rw [cell_of_row _ _ _ _ _ _ hg]; rfl
 have cW := a_within (n : Int) l m
 have hb : ∀ o, Below w.heap.size w (w.alloc o) := fun o => (Below.refl _ _).alloc (Nat.le_refl _) _
 unfold vrw
 go_enter Tryz.func141, Tryz.ntmps141
 go_wp2_with (fail)
 refine (cW.at _).mono ?_
 rintro e_ w1 ⟨rfl, hb1⟩
 replace hb1 := Below.after (hb _) hb1
 go_wp2
 go_ret
 exact ⟨rfl, hb1⟩
theorem infoOct : (Tryz.prog.info? 241).map (·.size) = some 3 := by kernel_rfl
set_option maxRecDepth 100000 in
set_option maxHeartbeats 4000000 in
theorem a_octets (da : Option Addr) (dl dc : Nat) (l m : Int) (hdl : dl < 9223372036854775808) (w : World) : Calls Tryz.prog 146 #[.agg #[.int .u64 l, .int .u64 m, .bool false], .slice da dl dc] w fun e w' => e = .returned (.int .i64 (wth (dl : Int) l m)) ∧ Below w.heap.size w w' := by
 have cW := a_within (dl : Int) l m
 have hb : ∀ o, Below w.heap.size w (w.alloc o) := fun o => (Below.refl _ _).alloc (Nat.le_refl _) _
 go_enter Tryz.func146, Tryz.ntmps146
 go_wp2_with (fail)
 refine (cW.at _).mono ?_
 rintro e_ w1 ⟨rfl, hb1⟩
 have r0 := keep hb1 (hp1_0 w (.cells #[.int .u64 l, .int .u64 m, .bool false] 241))
 have c2 : w1.cell? ⟨w.heap.size, 2, none⟩ = some (.bool false) := by rw [cell_of_row _ _ _ _ _ _ r0]; rfl
 replace hb1 := Below.after (hb _) hb1
 rcases hz : (wth (dl : Int) l m == 0)
 ·have hz2 : ¬ wth (dl : Int) l m = 0 := by simpa using hz
  clear r0 cW
  go_wp2
  go_ret
  exact ⟨rfl, hb1⟩
 ·have hz2 : wth (dl : Int) l m = 0 := by simpa using hz
  rw [hz2]
  replace hz2 := hide hz2
  clear r0 cW hz
  go_wp2
  go_ret
  exact ⟨by rw [hz2.out]; rfl, hb1⟩
set_option maxRecDepth 100000 in
set_option maxHeartbeats 4000000 in
theorem a_fitOct (n : Nat) (da : Option Addr) (dl dc : Nat) (pa : Option Addr) (pl pc : Nat) (l m : Int) (hdl : dl < 9223372036854775808) (g : Nat) (w : World) (hg : Bx w g #[.int .u64 l, .int .u64 m, .bool false]) : Calls Tryz.prog 145 #[.agg (vrw n (.slice da dl dc) (.slice pa pl pc)), .pointer (some ⟨g, 0, none⟩)] w fun e w' => e = .returned (.int .i64 (wth (dl : Int) l m)) ∧ Below w.heap.size w w' := by
 obtain ⟨T, hg⟩ := hg
 have hlt := lt_of_row hg
 have hb : ∀ o, Below w.heap.size w (w.alloc o) := fun o => (Below.refl _ _).alloc (Nat.le_refl _) _
 have cO := a_octets da dl dc l m hdl
 have hg2 := fun o => keep (hb o) hg
 unfold vrw
 go_enter Tryz.func145, Tryz.ntmps145
 go_wp2_with (first | (refine wpList_load_want rfl 241 _ rfl g rfl T #[.int .u64 l, .int .u64 m, .bool false] (0, 0) _ (hg2 _) Tryz.underlying241 rfl infoOct ?_) | fail)
 refine (cO _).mono ?_
 rintro e_ w1 ⟨rfl, hb1⟩
 replace hb1 := Below.after (hb _) hb1
 clear cO hg2 hg
 go_wp2
 go_ret
 exact ⟨rfl, hb1⟩
end Go.Proofs.YtjoohgkgkabbpaaGreatDoor
namespace Go.Proofs.YtjoohgkgkabbpaaGreatDoor
set_option maxRecDepth 100000
open Go Go.RowKit Go.Sort
attribute [local go_sem] setCell_drewN alloc_drewN
theorem infoV : (Tryz.prog.info? 78).map (·.size) = some 3 := by kernel_rfl
def pbad (b : Bool) (n dl pl : Nat) : Bool := decide (0 < pl) || (b && decide (n ≠ 0)) || (!b && decide (0 < dl))
end Go.Proofs.YtjoohgkgkabbpaaGreatDoor
namespace Go.Proofs.YtjoohgkgkabbpaaGreatDoor
set_option maxRecDepth 100000
open Go Go.RowKit Go.Sort
attribute [local go_sem] setCell_drewN alloc_drewN
theorem hmf : ∀ (fn : Fn) (first cap : Array Value) (w : World), (Instr.makeFunc fn first cap).run Tryz.prog w = .ok (.func fn first cap) w := fun _ _ _ _ => rfl
theorem eql_nils (W : World) : (binOp .eql 20 .nilIface .nilIface).run Tryz.prog W = .ok (.bool true) W := by kernel_rfl
theorem eql_fault (v : Value) (W : World) : (binOp .eql 20 (.iface 87 v) .nilIface).run Tryz.prog W = .ok (.bool false) W := by kernel_rfl
theorem ta_fault (v : Value) (W : World) : (Instr.typeAssert (.iface 87 v) 20 87 true).run Tryz.prog W = .ok (.tuple #[v, .bool true]) W := by kernel_rfl
set_option maxRecDepth 100000 in
theorem catch_idle (p : Addr) (w : World) : CallsD Tryz.prog 85 #[.pointer (some p)] .returning w fun e u' w' => e = .returned (.tuple #[]) ∧ u' = .returning ∧ w' = w := by
 refine callsD_of_wpS Tryz.func85 rfl fun c₀ cs hu => ?_
 apply wpS_seq
 apply wpS_region
 simp [wpOpsS, go_sem, recoverD, hu, Tryz.ntmps85, Exit.thenS, Array.replicate]
 refine wpS_of_wp ?_
 have h1 := eql_nils
 go_wp2
 cases c₀
 simp_all [bodyPostS, results, Tryz.results85]
set_option maxRecDepth 100000 in
theorem catch_panicking (p : Addr) (old : Value) (g : Nat) (older : List PanicEntry) (w : World) (hc : w.cell? p = some old) (hz : w.frozen? p = false) :
 CallsD Tryz.prog 85 #[.pointer (some p)] (.panicking ({ v := .iface 87 (.pointer (some ⟨g, 0, none⟩)), recovered := false } :: older)) w fun e u' w' =>
  e = .returned (.tuple #[]) ∧ u' = .panicking ({ v := .iface 87 (.pointer (some ⟨g, 0, none⟩)), recovered := true } :: older) ∧ w' = w.setCell p (.iface 87 (.pointer (some ⟨g, 0, none⟩))) := by
 refine callsD_of_wpS Tryz.func85 rfl fun c₀ cs hu => ?_
 apply wpS_seq
 apply wpS_region
 simp [wpOpsS, go_sem, recoverD, hu, Tryz.ntmps85, Exit.thenS, Array.replicate]
 refine wpS_of_wp ?_
 have h1 := eql_fault (.pointer (some ⟨g, 0, none⟩))
 have h2 := ta_fault (.pointer (some ⟨g, 0, none⟩))
 go_wp2
 cases c₀
 simp_all [bodyPostS, results, Tryz.results85]
end Go.Proofs.YtjoohgkgkabbpaaGreatDoor
namespace Go.Proofs.YtjoohgkgkabbpaaGreatDoor
set_option maxRecDepth 100000
open Go Go.RowKit Go.Sort
attribute [local go_sem] setCell_drewN alloc_drewN
theorem wp_call_up {P : Program} {o : Oper} {a : Act} {w : World} {K : Act → World → Prop} {Q : Exit → Act → World → Prop} {f : FuncId} {args : Array Value} {base : Nat} {F : Option Flt3} {R : Value → Prop} {B : World → Prop} (hx : (execOp a.eval o).run P w = .ok (.enter f args) w)
 (c : Calls P f args w fun e w' => Gup base F e w' R ∧ B w') (h : F = none → ∀ v w', R v → B w' → K (a.put o.dst v) w')
 (hp : ∀ x, F = some x → ∀ g w', base ≤ g → w'.heap[g]? = some (.cells (frw x) 35 (0, 0)) → B w' → Q (.panic [{ v := .iface 87 (.pointer (some ⟨g, 0, none⟩)), recovered := false }]) a w') : o.wp P a w K Q := by
 unfold Oper.wp
 rw [hx, Oper.upon_enter]
 refine c.mono fun e w' ⟨hG, hB⟩ => ?_
 cases F with
 | none =>
  obtain ⟨v, rfl, hv⟩ := hG
  exact h rfl v w' hv hB
 | some x =>
  obtain ⟨g, rfl, h1, h2⟩ := hG
  exact hp x rfl g w' h1 h2 hB
theorem run_call_val {P : Program} {o : Oper} {ρ : Operand → Value} {w : World} {f : FuncId} {caps : Array Value} (x : Operand) (ys : Array Operand) (ats : Array TypeId) (ho : o.op = .call { callee := .value x, args := ys, argTypes := ats }) (hx : ρ x = .func (.func f) #[] caps) (args : Array Value) (hys : ys.map ρ = args) (hent : ∀ args W, (callFunc f args).run P W = .ok (.enter f args) W) : (execOp ρ o).run P w = .ok (.enter f (args ++ caps)) w := by
 unfold execOp
 simp only [ho, resolve, hx, hys, Deferred.ofValue, invoke, Sem.run_bind, Sem.run_pure, Result.andThen_ok, hent, Array.empty_append]
structure VR where
 num : Nat
 da : Option Addr
 dl : Nat
 dc : Nat
 pa : Option Addr
 pl : Nat
 pc : Nat
def vrv (x : VR) : Array Value := vrw x.num (.slice x.da x.dl x.dc) (.slice x.pa x.pl x.pc)
def vr0 : VR := ⟨0, none, 0, 0, none, 0, 0⟩
def gx (xs : List VR) (i : Nat) : VR := xs.getD i vr0
def Prt (W : World) (v : Value) (xs : List VR) : Prop := ∃ ao cap, v = .slice ao xs.length cap ∧ xs.length ≤ cap ∧ (∀ i, i < xs.length → (gx xs i).num < 18446744073709551616 ∧ (gx xs i).dl < 9223372036854775808) ∧ ∀ i, i < xs.length → ∃ b off, ao = some ⟨b, off, none⟩ ∧ b < W.heap.size ∧ W.rangeAt b (off + i * 3) (vrv (gx xs i)).toList
theorem Prt.keep {W V : World} {v : Value} {xs : List VR} (h : Prt W v xs) (hb : Below W.heap.size W V) : Prt V v xs := by
 obtain ⟨ao, cap, e, hc, hn, h⟩ := h
 refine ⟨ao, cap, e, hc, hn, fun i hi => ?_⟩
 obtain ⟨b, off, h1, h2, h3⟩ := h i hi
 exact ⟨b, off, h1, Nat.lt_of_lt_of_le h2 hb.size, rangeS_keep2 h3 hb h2⟩
def Fla (t : Slt) : Prop := t.kind = 1 ∨ t.kind = 2 ∨ t.kind = 3 ∨ t.kind = 4 ∨ t.kind = 5
def ftE (t : Slt) (x : VR) : Int := if t.kind = 5 then wth (x.dl : Int) (t.least : Int) (t.most : Int) else if t.kind = 4 then wth (x.num : Int) 0 1 else wth (x.num : Int) (t.least : Int) (t.most : Int)
end Go.Proofs.YtjoohgkgkabbpaaGreatDoor
namespace Go.Proofs.YtjoohgkgkabbpaaGreatDoor
set_option maxRecDepth 100000
open Go Go.RowKit Go.Sort
attribute [local go_sem] setCell_drewN alloc_drewN
theorem infoSt' : (Tryz.prog.info? 166).map (·.size) = some 5 := by kernel_rfl
end Go.Proofs.YtjoohgkgkabbpaaGreatDoor
namespace Go.Proofs.YtjoohgkgkabbpaaGreatDoor
set_option maxRecDepth 100000
open Go Go.RowKit Go.Sort
attribute [local go_sem] setCell_drewN alloc_drewN
def Cdc (W : World) (g : Nat) (ts : List Slt) : Prop := ∃ x, RdL W (fun _ => True) x ts ∧ W.heap[g]? = some (.cells #[x, .int .i64 ((prS ts).1 : Int), .int .i64 ((prS ts).2 : Int)] 120 (0, 0))
set_option maxRecDepth 100000 in
set_option maxHeartbeats 4000000 in
theorem a_Compile {W : World} {v : Value} {ts : List Slt} (h : Slo W v ts) (w : World) (hw : Below W.heap.size W w) : Calls Tryz.prog 69 #[v] w fun e w' => Below w.heap.size w w' ∧ ((vld ts = 0 ∧ ∃ g, e = .returned (.tuple #[.pointer (some ⟨g, 0, none⟩), .int .i64 0]) ∧ w.heap.size ≤ g ∧ Cdc w' g ts) ∨ (vld ts ≠ 0 ∧ e = .returned (.tuple #[.pointer none, .int .i64 (vld ts)]))) := by
 have cO := a_outline h w hw
 have hgd : vld ts = 0 → gd ts := fun h0 => by
  refine lft_gd ts 1 256 (by omega) ?_
  unfold vld at h0
  split at h0
  ·cases h0
  ·omega
 obtain ⟨ao, cap, rfl⟩ := h.form
 go_enter Tryz.func69, Tryz.ntmps69
 go_wp2_with (fail)
 refine cO.mono ?_
 rintro e_ w1 ⟨hb, hres⟩
 clear cO
 rcases hres with ⟨hv, m, rfl, hm⟩ | ⟨hv, rfl⟩
 ·have hg := hgd hv
  have cS := a_mspan hm.msg hg w1 (Below.refl _ _)
  have cC := fun V hV => a_compile hm hg V hV
  have hle := spL_le ts 0 0 (by omega) (by omega)
  rw [← prS_spL] at hle
  obtain ⟨hl1, hl2⟩ := hle
  have hcd : ∀ (V : World) (g : Nat) (x : Value), RdL V (fun _ => True) x ts → V.heap[g]? = some (.cells #[x, .int .i64 ((prS ts).1 : Int), .int .i64 ((prS ts).2 : Int)] 120 (0, 0)) → Cdc V g ts := fun V g x hr hx => ⟨x, hr, hx⟩
  generalize (prS ts).1 = A at *
  generalize (prS ts).2 = Bm at *
  have A1 := hide hcd
  have A2 := hide hv
  obtain ⟨mo, mc, rfl⟩ := hm.form
  clear hcd hv hgd hg hm
  go_wp2_with (fail)
  refine cS.mono ?_
  rintro e_ w2 ⟨rfl, hb2⟩
  clear cS
  go_wp2_with (fail)
  refine (cC w2 hb2).mono ?_
  rintro e_ w3 ⟨x, rfl, ⟨xo, xn, xc, rfl⟩, hb3, hRd⟩
  clear cC
  have hB := Below.after (Below.after hb hb2) hb3
  have q1 := A1.out (w3.alloc (.cells #[.slice xo xn xc, .int .i64 (A : Int), .int .i64 (Bm : Int)] 120)) w3.heap.size _ (hRd.keep ⟨by rw [size_alloc1]; omega, fun b hb _ => ⟨((Below.refl _ _).alloc (Nat.le_refl _) _ : Below w3.heap.size w3 (w3.alloc (.cells #[.slice xo xn xc, .int .i64 (A : Int), .int .i64 (Bm : Int)] 120))).block b hb, trivial⟩⟩) (hp1_0 w3 _)
  have hba : Below w3.heap.size w3 (w3.alloc (.cells #[.slice xo xn xc, .int .i64 (A : Int), .int .i64 (Bm : Int)] 120)) := (Below.refl _ _).alloc (Nat.le_refl _) _
  have A3 := hide q1
  have A4 := hide (Below.after hB hba)
  have A5 := hide hB
  clear q1 hba hB hb hb2 hb3 A1 hRd
  go_wp2_with (fail)
  go_ret2
  exact ⟨A4.out, .inl ⟨A2.out, _, rfl, A5.out.size, A3.out⟩⟩
 ·have hv' : (vld ts == 0) = false := beq_eq_false_iff_ne.2 hv
  generalize hx : vld ts = x at *
  replace hx := hide hx
  go_wp2_with (fail)
  go_ret2
  exact ⟨hb, .inr ⟨by rw [hx.out]; exact hv, by rw [hx.out]; rfl⟩⟩
theorem Cdc.keep {W V : World} {g : Nat} {ts : List Slt} (h : Cdc W g ts) (hb : Below W.heap.size W V) : Cdc V g ts := by
 obtain ⟨x, h1, h2⟩ := h
 exact ⟨x, h1.keep (Sty.below hb), (hb.block g (lt_of_row h2)).trans h2⟩
end Go.Proofs.YtjoohgkgkabbpaaGreatDoor
namespace Go.Proofs.YtjoohgkgkabbpaaGreatDoor
set_option maxRecDepth 100000
open Go Go.RowKit Go.Sort
attribute [local go_sem] setCell_drewN alloc_drewN
theorem range_row {W : World} {g : Nat} {c : Array Value} (h : Bx W g c) : W.rangeAt g 0 c.toList := fun j v hv => by
 obtain ⟨T, h⟩ := h
 rw [Nat.zero_add, cell_of_row _ _ _ _ _ _ h]
 simpa using hv
end Go.Proofs.YtjoohgkgkabbpaaGreatDoor
namespace Go.Proofs.YtjoohgkgkabbpaaGreatDoor
set_option maxRecDepth 100000
open Go Go.RowKit Go.Sort
attribute [local go_sem] setCell_drewN alloc_drewN
def fagg (f : Fd) (u : Value) : Value := .agg #[.int .i64 f.no, .int .i64 f.ty, .int .u64 (f.num : Int), u]
set_option maxHeartbeats 2000000 in
theorem a_checkHead (f : Fd) (u : Value) (last : Int) : Gives 111 #[fagg f u, .int .i64 last] (.int .i64 (hck f last)) := by
 intro w
 unfold fagg hck
 by_cases h1 : f.no ≤ last
 ·have d1 : decide (f.no ≤ last) = true := decide_eq_true h1
  rw [if_pos (.inl h1)]
  have R0 := hp1_0 w (.cells #[.int .i64 f.no, .int .i64 f.ty, .int .u64 (f.num : Int), u] 72)
  have hw : Below w.heap.size w (w.alloc (.cells #[.int .i64 f.no, .int .i64 f.ty, .int .u64 (f.num : Int), u] 72)) := (Below.refl _ _).alloc (Nat.le_refl _) _
  have c0 : (w.alloc (.cells #[.int .i64 f.no, .int .i64 f.ty, .int .u64 (f.num : Int), u] 72)).cell? ⟨w.heap.size, 0, none⟩ = some (.int .i64 f.no) := cell_of_row _ _ _ _ _ _ R0
  have c1 : (w.alloc (.cells #[.int .i64 f.no, .int .i64 f.ty, .int .u64 (f.num : Int), u] 72)).cell? ⟨w.heap.size, 1, none⟩ = some (.int .i64 f.ty) := cell_of_row _ _ _ _ _ _ R0
  have c2 : (w.alloc (.cells #[.int .i64 f.no, .int .i64 f.ty, .int .u64 (f.num : Int), u] 72)).cell? ⟨w.heap.size, 2, none⟩ = some (.int .u64 (f.num : Int)) := cell_of_row _ _ _ _ _ _ R0
  have c3 : (w.alloc (.cells #[.int .i64 f.no, .int .i64 f.ty, .int .u64 (f.num : Int), u] 72)).cell? ⟨w.heap.size, 3, none⟩ = some (u) := cell_of_row _ _ _ _ _ _ R0
  go_enter Tryz.func111, Tryz.ntmps111
  clear R0
  go_wp2_with (fail)
  go_ret
  exact ⟨rfl, hw⟩
 have d1 : decide (f.no ≤ last) = false := decide_eq_false h1
 by_cases h2 : 536870911 < f.no
 ·have d2 : decide (f.no > 536870911) = true := decide_eq_true h2
  rw [if_pos (.inr h2)]
  have R0 := hp1_0 w (.cells #[.int .i64 f.no, .int .i64 f.ty, .int .u64 (f.num : Int), u] 72)
  have hw : Below w.heap.size w (w.alloc (.cells #[.int .i64 f.no, .int .i64 f.ty, .int .u64 (f.num : Int), u] 72)) := (Below.refl _ _).alloc (Nat.le_refl _) _
  have c0 : (w.alloc (.cells #[.int .i64 f.no, .int .i64 f.ty, .int .u64 (f.num : Int), u] 72)).cell? ⟨w.heap.size, 0, none⟩ = some (.int .i64 f.no) := cell_of_row _ _ _ _ _ _ R0
  have c1 : (w.alloc (.cells #[.int .i64 f.no, .int .i64 f.ty, .int .u64 (f.num : Int), u] 72)).cell? ⟨w.heap.size, 1, none⟩ = some (.int .i64 f.ty) := cell_of_row _ _ _ _ _ _ R0
  have c2 : (w.alloc (.cells #[.int .i64 f.no, .int .i64 f.ty, .int .u64 (f.num : Int), u] 72)).cell? ⟨w.heap.size, 2, none⟩ = some (.int .u64 (f.num : Int)) := cell_of_row _ _ _ _ _ _ R0
  have c3 : (w.alloc (.cells #[.int .i64 f.no, .int .i64 f.ty, .int .u64 (f.num : Int), u] 72)).cell? ⟨w.heap.size, 3, none⟩ = some (u) := cell_of_row _ _ _ _ _ _ R0
  go_enter Tryz.func111, Tryz.ntmps111
  clear R0
  go_wp2_with (fail)
  go_ret
  exact ⟨rfl, hw⟩
 have d2 : decide (f.no > 536870911) = false := decide_eq_false h2
 rw [if_neg (by omega)]
 by_cases t0 : f.ty = 0
 ·rw [t0, if_pos (show known 0 from .inl rfl)]
  have R0 := hp1_0 w (.cells #[.int .i64 f.no, .int .i64 0, .int .u64 (f.num : Int), u] 72)
  have hw : Below w.heap.size w (w.alloc (.cells #[.int .i64 f.no, .int .i64 0, .int .u64 (f.num : Int), u] 72)) := (Below.refl _ _).alloc (Nat.le_refl _) _
  have c0 : (w.alloc (.cells #[.int .i64 f.no, .int .i64 0, .int .u64 (f.num : Int), u] 72)).cell? ⟨w.heap.size, 0, none⟩ = some (.int .i64 f.no) := cell_of_row _ _ _ _ _ _ R0
  have c1 : (w.alloc (.cells #[.int .i64 f.no, .int .i64 0, .int .u64 (f.num : Int), u] 72)).cell? ⟨w.heap.size, 1, none⟩ = some (.int .i64 0) := cell_of_row _ _ _ _ _ _ R0
  have c2 : (w.alloc (.cells #[.int .i64 f.no, .int .i64 0, .int .u64 (f.num : Int), u] 72)).cell? ⟨w.heap.size, 2, none⟩ = some (.int .u64 (f.num : Int)) := cell_of_row _ _ _ _ _ _ R0
  have c3 : (w.alloc (.cells #[.int .i64 f.no, .int .i64 0, .int .u64 (f.num : Int), u] 72)).cell? ⟨w.heap.size, 3, none⟩ = some (u) := cell_of_row _ _ _ _ _ _ R0
  go_enter Tryz.func111, Tryz.ntmps111
  clear R0 h1 h2
  go_wp2_with (fail)
  go_ret
  exact ⟨rfl, hw⟩
 by_cases t1 : f.ty = 1
 ·rw [t1, if_pos (show known 1 from .inr (.inl rfl))]
  have R0 := hp1_0 w (.cells #[.int .i64 f.no, .int .i64 1, .int .u64 (f.num : Int), u] 72)
  have hw : Below w.heap.size w (w.alloc (.cells #[.int .i64 f.no, .int .i64 1, .int .u64 (f.num : Int), u] 72)) := (Below.refl _ _).alloc (Nat.le_refl _) _
  have c0 : (w.alloc (.cells #[.int .i64 f.no, .int .i64 1, .int .u64 (f.num : Int), u] 72)).cell? ⟨w.heap.size, 0, none⟩ = some (.int .i64 f.no) := cell_of_row _ _ _ _ _ _ R0
  have c1 : (w.alloc (.cells #[.int .i64 f.no, .int .i64 1, .int .u64 (f.num : Int), u] 72)).cell? ⟨w.heap.size, 1, none⟩ = some (.int .i64 1) := cell_of_row _ _ _ _ _ _ R0
  have c2 : (w.alloc (.cells #[.int .i64 f.no, .int .i64 1, .int .u64 (f.num : Int), u] 72)).cell? ⟨w.heap.size, 2, none⟩ = some (.int .u64 (f.num : Int)) := cell_of_row _ _ _ _ _ _ R0
  have c3 : (w.alloc (.cells #[.int .i64 f.no, .int .i64 1, .int .u64 (f.num : Int), u] 72)).cell? ⟨w.heap.size, 3, none⟩ = some (u) := cell_of_row _ _ _ _ _ _ R0
  go_enter Tryz.func111, Tryz.ntmps111
  clear R0 h1 h2
  go_wp2_with (fail)
  go_ret
  exact ⟨rfl, hw⟩
 by_cases t2 : f.ty = 2
 ·rw [t2, if_pos (show known 2 from .inr (.inr (.inl rfl)))]
  have R0 := hp1_0 w (.cells #[.int .i64 f.no, .int .i64 2, .int .u64 (f.num : Int), u] 72)
  have hw : Below w.heap.size w (w.alloc (.cells #[.int .i64 f.no, .int .i64 2, .int .u64 (f.num : Int), u] 72)) := (Below.refl _ _).alloc (Nat.le_refl _) _
  have c0 : (w.alloc (.cells #[.int .i64 f.no, .int .i64 2, .int .u64 (f.num : Int), u] 72)).cell? ⟨w.heap.size, 0, none⟩ = some (.int .i64 f.no) := cell_of_row _ _ _ _ _ _ R0
  have c1 : (w.alloc (.cells #[.int .i64 f.no, .int .i64 2, .int .u64 (f.num : Int), u] 72)).cell? ⟨w.heap.size, 1, none⟩ = some (.int .i64 2) := cell_of_row _ _ _ _ _ _ R0
  have c2 : (w.alloc (.cells #[.int .i64 f.no, .int .i64 2, .int .u64 (f.num : Int), u] 72)).cell? ⟨w.heap.size, 2, none⟩ = some (.int .u64 (f.num : Int)) := cell_of_row _ _ _ _ _ _ R0
  have c3 : (w.alloc (.cells #[.int .i64 f.no, .int .i64 2, .int .u64 (f.num : Int), u] 72)).cell? ⟨w.heap.size, 3, none⟩ = some (u) := cell_of_row _ _ _ _ _ _ R0
  go_enter Tryz.func111, Tryz.ntmps111
  clear R0 h1 h2
  go_wp2_with (fail)
  go_ret
  exact ⟨rfl, hw⟩
 by_cases t5 : f.ty = 5
 ·rw [t5, if_pos (show known 5 from .inr (.inr (.inr rfl)))]
  have R0 := hp1_0 w (.cells #[.int .i64 f.no, .int .i64 5, .int .u64 (f.num : Int), u] 72)
  have hw : Below w.heap.size w (w.alloc (.cells #[.int .i64 f.no, .int .i64 5, .int .u64 (f.num : Int), u] 72)) := (Below.refl _ _).alloc (Nat.le_refl _) _
  have c0 : (w.alloc (.cells #[.int .i64 f.no, .int .i64 5, .int .u64 (f.num : Int), u] 72)).cell? ⟨w.heap.size, 0, none⟩ = some (.int .i64 f.no) := cell_of_row _ _ _ _ _ _ R0
  have c1 : (w.alloc (.cells #[.int .i64 f.no, .int .i64 5, .int .u64 (f.num : Int), u] 72)).cell? ⟨w.heap.size, 1, none⟩ = some (.int .i64 5) := cell_of_row _ _ _ _ _ _ R0
  have c2 : (w.alloc (.cells #[.int .i64 f.no, .int .i64 5, .int .u64 (f.num : Int), u] 72)).cell? ⟨w.heap.size, 2, none⟩ = some (.int .u64 (f.num : Int)) := cell_of_row _ _ _ _ _ _ R0
  have c3 : (w.alloc (.cells #[.int .i64 f.no, .int .i64 5, .int .u64 (f.num : Int), u] 72)).cell? ⟨w.heap.size, 3, none⟩ = some (u) := cell_of_row _ _ _ _ _ _ R0
  go_enter Tryz.func111, Tryz.ntmps111
  clear R0 h1 h2
  go_wp2_with (fail)
  go_ret
  exact ⟨rfl, hw⟩
 have q0 : (f.ty == 0) = false := by simpa using t0
 have q1 : (f.ty == 1) = false := by simpa using t1
 have q2 : (f.ty == 2) = false := by simpa using t2
 have q5 : (f.ty == 5) = false := by simpa using t5
 rw [if_neg (show ¬ known f.ty by unfold known; omega)]
 clear t0 t1 t2 t5
 have R0 := hp1_0 w (.cells #[.int .i64 f.no, .int .i64 f.ty, .int .u64 (f.num : Int), u] 72)
 have hw : Below w.heap.size w (w.alloc (.cells #[.int .i64 f.no, .int .i64 f.ty, .int .u64 (f.num : Int), u] 72)) := (Below.refl _ _).alloc (Nat.le_refl _) _
 have c0 : (w.alloc (.cells #[.int .i64 f.no, .int .i64 f.ty, .int .u64 (f.num : Int), u] 72)).cell? ⟨w.heap.size, 0, none⟩ = some (.int .i64 f.no) := cell_of_row _ _ _ _ _ _ R0
 have c1 : (w.alloc (.cells #[.int .i64 f.no, .int .i64 f.ty, .int .u64 (f.num : Int), u] 72)).cell? ⟨w.heap.size, 1, none⟩ = some (.int .i64 f.ty) := cell_of_row _ _ _ _ _ _ R0
 have c2 : (w.alloc (.cells #[.int .i64 f.no, .int .i64 f.ty, .int .u64 (f.num : Int), u] 72)).cell? ⟨w.heap.size, 2, none⟩ = some (.int .u64 (f.num : Int)) := cell_of_row _ _ _ _ _ _ R0
 have c3 : (w.alloc (.cells #[.int .i64 f.no, .int .i64 f.ty, .int .u64 (f.num : Int), u] 72)).cell? ⟨w.heap.size, 3, none⟩ = some (u) := cell_of_row _ _ _ _ _ _ R0
 go_enter Tryz.func111, Tryz.ntmps111
 clear R0 h1 h2
 go_wp2_with (fail)
 go_ret
 exact ⟨rfl, hw⟩
theorem Fok.hd {f : Fd} (h1 : f.no ≤ 536870911) (h2 : f.ty < 8) : fhd f < 18446744073709551616 := by unfold fhd; omega
end Go.Proofs.YtjoohgkgkabbpaaGreatDoor
namespace Go.Proofs.YtjoohgkgkabbpaaGreatDoor
set_option maxRecDepth 100000
open Go Go.RowKit Go.Sort
attribute [local go_sem] setCell_drewN alloc_drewN
end Go.Proofs.YtjoohgkgkabbpaaGreatDoor
namespace Go.Proofs.YtjoohgkgkabbpaaGreatDoor
set_option maxRecDepth 100000
open Go Go.RowKit Go.Sort
attribute [local go_sem] setCell_drewN alloc_drewN
set_option maxRecDepth 100000 in
theorem info48 : ∃ i, Tryz.prog.info? 72 = some i ∧ i.zero = some (.agg #[.int .i64 0, .int .i64 0, .int .u64 0, .slice none 0 0]) ∧ i.size = 4 ∧ i.bytes = 48 := ⟨_, rfl, rfl, rfl, rfl⟩
def frs : List Fd → List Value → List Value
 | f :: fs, u :: us => frow f u ++ frs fs us
 | _, _ => []
theorem frs_snoc : ∀ (fs : List Fd) (us : List Value) (f : Fd) (u : Value), us.length = fs.length → frs (fs ++ [f]) (us ++ [u]) = frs fs us ++ frow f u
 | [], [], f, u, _ => by simp [frs]
 | [], _ :: _, _, _, h => by simp at h
 | _ :: _, [], _, _, h => by simp at h
 | g :: fs, v :: us, f, u, h => by
  rw [List.cons_append, List.cons_append, frs, frs, frs_snoc fs us f u (by simpa using h), List.append_assoc]
theorem frs_at : ∀ (fs : List Fd) (us : List Value) (i j : Nat), us.length = fs.length → i < fs.length → j < 4 → (frs fs us)[i * 4 + j]? = (frow (gf fs i) (gv us i))[j]?
 | [], _, i, _, _, h, _ => by simp at h
 | f :: fs, [], _, _, h, _, _ => by simp at h
 | f :: fs, u :: us, 0, j, h, _, hj => by
  rw [frs, Nat.zero_mul, Nat.zero_add, List.getElem?_append_left (by show j < 4; exact hj)]
  rfl
 | f :: fs, u :: us, i + 1, j, h, hi, hj => by
  rw [frs, List.getElem?_append_right (by show 4 ≤ _; omega)]
  have : (i + 1) * 4 + j - (frow f u).length = i * 4 + j := by show _ - 4 = _; omega
  rw [this, frs_at fs us i j (by simpa using h) (by simpa using hi) hj]
  rfl
def Fts (W : World) (base : Nat) (v : Value) (us : List Value) (fs : List Fd) : Prop :=
 W.ownsRow base 72 4 v fs.length (frs fs us) ∧ us.length = fs.length ∧ (∀ i, i < us.length → Own W base (gv us i) (gf fs i).dat) ∧
 (∀ i, i < us.length → ∀ k, (gv us i).ownBlock = some k → v.ownBlock ≠ some k) ∧ (∀ i j, i < j → j < us.length → ∀ k, (gv us i).ownBlock = some k → (gv us j).ownBlock ≠ some k)
theorem Fts.keep {W V : World} {b : Nat} {v : Value} {us : List Value} {fs : List Fd} (h : Fts W b v us fs) (hb : Below W.heap.size W V) : Fts V b v us fs :=
 ⟨own_keep_row h.1 hb, h.2.1, fun i hi => (h.2.2.1 i hi).keep hb, h.2.2.2⟩
theorem fts_nil (W : World) (b : Nat) : Fts W b (.slice none 0 0) [] [] := ⟨⟨rfl, .inl ⟨rfl, rfl⟩⟩, rfl, fun i hi => by simp at hi, fun i hi => by simp at hi, fun i j _ hj => by simp at hj⟩
theorem fts_empty (W : World) : Fts (W.alloc (.cells #[] 72)) W.heap.size (.slice (some ⟨W.heap.size, 0, none⟩) 0 0) [] [] :=
 ⟨⟨rfl, .inr ⟨W.heap.size, 0, #[], rfl, Nat.le_refl _, hp1_0 _ _, Nat.le_refl _, by decide, rfl, rfl⟩⟩, rfl, fun i hi => by simp at hi, fun i hi => by simp at hi, fun i j _ hj => by simp at hj⟩
theorem gf_app_lo {fs : List Fd} {f : Fd} {i : Nat} (h : i < fs.length) : gf (fs ++ [f]) i = gf fs i := by
 rw [gf, gf, List.getD_eq_getElem?_getD, List.getElem?_append_left h, ← List.getD_eq_getElem?_getD]
theorem gf_app_hi {fs : List Fd} {f : Fd} : gf (fs ++ [f]) fs.length = f := by
 rw [gf, List.getD_eq_getElem?_getD, List.getElem?_append_right (Nat.le_refl _), Nat.sub_self]; rfl
theorem Fts.high {W : World} {b : Nat} {v : Value} {us : List Value} {fs : List Fd} (h : Fts W b v us fs) : (∀ k, v.ownBlock = some k → k < W.heap.size) ∧ ∀ i, i < us.length → ∀ k, (gv us i).ownBlock = some k → k < W.heap.size :=
 ⟨fun k e => (own_high_row h.1 k e).2, fun i hi k e => own_high (h.2.2.1 i hi) k e⟩
theorem Fts.snoc {W W' : World} {b L : Nat} {v v' : Value} {us : List Value} {fs : List Fd} {u : Value} {f : Fd} (h : Fts W b v us fs) (hL : ∀ k, v.ownBlock = some k → k < L) (hLi : ∀ i, i < us.length → ∀ k, (gv us i).ownBlock = some k → k < L) (hbL : b ≤ L)
 (hu : Own W L u f.dat) (ho : W'.ownsRow b 72 4 v' (fs.length + 1) (frs fs us ++ frow f u)) (hg : W.grownBy W' v.ownBlock) (hk : Nx W v v') : Fts W' b v' (us ++ [u]) (fs ++ [f]) := by
 obtain ⟨h1, h2, h3, h4, h5⟩ := h
 have hu2 : Own W' L u f.dat := hu.grown2 hg hL
 have hlu : ∀ k, u.ownBlock = some k → L ≤ k ∧ k < W.heap.size := fun k e => ⟨own_low hu k e, own_high hu k e⟩
 refine ⟨by rw [List.length_append, List.length_singleton, frs_snoc fs us f u h2]; exact ho, by rw [List.length_append, List.length_append, h2]; rfl, fun i hi => ?_, fun i hi k e => ?_, fun i j hij hj k e => ?_⟩
 ·rw [List.length_append, List.length_singleton] at hi
  rcases Nat.lt_or_ge i us.length with q | q
  ·rw [gv_app_lo q, gf_app_lo (by omega)]
   have ho3 := h3 i q
   obtain ⟨q1, q2 | ⟨g, cap, cur, q2, hb2, hr, q3⟩⟩ := ho3
   ·exact ⟨q1, .inl q2⟩
   ·refine ⟨q1, .inr ⟨g, cap, cur, q2, hb2, (hg.block g (lt_of_row hr) (fun e => ?_)).trans hr, q3⟩⟩
    exact h4 i q g (by rw [q2]; rfl) e.symm
  ·obtain rfl : i = us.length := by omega
   rw [gv_app_hi, h2, gf_app_hi]
   obtain ⟨q1, q2 | ⟨g, cap, cur, q2, hb2, hr⟩⟩ := hu2
   ·exact ⟨q1, .inl q2⟩
   ·exact ⟨q1, .inr ⟨g, cap, cur, q2, by omega, hr⟩⟩
 ·rw [List.length_append, List.length_singleton] at hi
  intro e2
  rcases hk with hk1 | ⟨k', hk1, hk2⟩
  ·rw [hk1] at e2
   rcases Nat.lt_or_ge i us.length with q | q
   ·rw [gv_app_lo q] at e
    exact h4 i q k e e2
   ·obtain rfl : i = us.length := by omega
    rw [gv_app_hi] at e
    have := hL k e2
    have := (hlu k e).1
    omega
  ·rw [hk1] at e2
   cases e2
   rcases Nat.lt_or_ge i us.length with q | q
   ·rw [gv_app_lo q] at e
    have := own_high (h3 i q) _ e
    omega
   ·obtain rfl : i = us.length := by omega
    rw [gv_app_hi] at e
    have := (hlu _ e).2
    omega
 ·rw [List.length_append, List.length_singleton] at hj
  rcases Nat.lt_or_ge j us.length with q | q
  ·rw [gv_app_lo (by omega)] at e
   rw [gv_app_lo q]
   exact h5 i j hij q k e
  ·obtain rfl : j = us.length := by omega
   rw [gv_app_lo hij] at e
   rw [gv_app_hi]
   intro e2
   have := hLi i hij k e
   have := (hlu k e2).1
   omega
theorem new_cells4 (wr : World) (cs : Array Value) (t : TypeId) : ∀ j x, cs.toList[j]? = some x → (wr.alloc (.cells cs t)).cell? ((⟨wr.heap.size, 0, none⟩ : Addr).add j) = some x := by
 intro j x hx
 rw [addr_add, cell_of_row _ _ _ _ _ _ (hp1_0 wr (.cells cs t)), Nat.zero_add]
 simpa using hx
theorem wpList_append_F {w : World} {ops : Array Oper} {rest : List Oper} {o : Oper} {a : Act} {Q : Exit → Act → World → Prop} (hgd : o.guard = none) (s x : Operand)
 (ho : o.op = .call { callee := .builtin .append, args := #[s, x], argTypes := #[67, 67] })
 (base : Nat) (v : Value) (us : List Value) (fs : List Fd) (hs : a.eval s = v) (L : Nat) (hI : Fts w base v us fs) (hL : ∀ k, v.ownBlock = some k → k < L) (hLi : ∀ i, i < us.length → ∀ k, (gv us i).ownBlock = some k → k < L) (hbL : base ≤ L)
 (u : Value) (f : Fd) (hu : Own w L u f.dat) (g : Nat) (hx : a.eval x = .slice (some ⟨g, 0, none⟩) 1 1) (hnews : ∀ j x, (frow f u)[j]? = some x → w.cell? ((⟨g, 0, none⟩ : Addr).add j) = some x)
 (hlen : fs.length < 2932031007317) (hbase : base ≤ w.heap.size)
 (h : ∀ v' w', Fts w' base v' (us ++ [u]) (fs ++ [f]) → w.grownBy w' v.ownBlock → Nx w v v' → wpList Tryz.prog ops Q rest (a.put o.dst v') w') : wpList Tryz.prog ops Q (o :: rest) a w := by
 obtain ⟨i0, hi, hz0, hz1, hz2⟩ := info48
 refine wpList_plain hgd fun _ hK => wp_append_nx s x 67 ho base 72 i0 (.agg #[.int .i64 0, .int .i64 0, .int .u64 0, .slice none 0 0]) 4 48 Tryz.underlying67 hi hz0 hz1 hz2 rfl (by decide) v fs.length (frs fs us) hs hI.1 ⟨g, 0, none⟩ 1 1 (frow f u) hx rfl hnews (fun x hx => ?_) (by unfold maxLen; omega) (by omega) hbase (fun v' w' h1 h2 h3 => hK _ _ (h v' w' (hI.snoc hL hLi hbL hu h1 h2 h3) h2 h3))
 obtain ⟨ao, cap, rfl⟩ := slen_own hu
 simp [frow] at hx
 rcases hx with rfl | rfl | rfl | rfl <;> rfl
end Go.Proofs.YtjoohgkgkabbpaaGreatDoor
namespace Go.Proofs.YtjoohgkgkabbpaaGreatDoor
set_option maxRecDepth 100000
open Go Go.RowKit Go.Sort
attribute [local go_sem] setCell_drewN alloc_drewN
theorem infoFi : (Tryz.prog.info? 72).map (·.size) = some 4 := by kernel_rfl
def wtK (t : Slt) : Int := if t.kind = 2 then 5 else if t.kind = 3 then 1 else if t.kind = 5 then 2 else 0
end Go.Proofs.YtjoohgkgkabbpaaGreatDoor
namespace Go.Proofs.YtjoohgkgkabbpaaGreatDoor
set_option maxRecDepth 100000
open Go Go.RowKit Go.Sort
attribute [local go_sem] setCell_drewN alloc_drewN
theorem wp_val_op {P : Program} {o : Oper} {a : Act} {w w' : World} {K : Act → World → Prop} {Q : Exit → Act → World → Prop} (v : Value) (hx : (execOp a.eval o).run P w = .ok (.value v) w') (h : K (a.put o.dst v) w') : o.wp P a w K Q := by
 unfold Oper.wp
 rw [hx, Oper.upon_value]
 exact h
end Go.Proofs.YtjoohgkgkabbpaaGreatDoor
namespace Go.Proofs.YtjoohgkgkabbpaaGreatDoor
set_option maxRecDepth 100000
open Go Go.RowKit Go.Sort
attribute [local go_sem] setCell_drewN alloc_drewN
theorem neq_nils (W : World) : (binOp .neq 30 .nilIface .nilIface).run Tryz.prog W = .ok (.bool false) W := by kernel_rfl
theorem neq_fault (v : Value) (W : World) : (binOp .neq 30 (.iface 87 v) .nilIface).run Tryz.prog W = .ok (.bool true) W := by kernel_rfl
end Go.Proofs.YtjoohgkgkabbpaaGreatDoor

