import Derived.Test.YtmmlkfkpblokiaaGreatDoorProg
import Derived.WalkKit
import Derived.WalkSpells
import Derived.WalkLawsBesides
import Derived.Lib.QuietBelow
import Derived.Laws.BitsAllLaws
import Derived.BigQuiet
import Derived.WalkMore
import Derived.Test.YtmmlkfkpblokiaaGreatDoorQeOpen
import Derived.OrdersHeld
import Derived.Deep.RegionHeld3
import Derived.RangeFuncNested
import Derived.RangeFuncBound
import Derived.RangeFuncCalls
import Derived.RangeFuncLeaves
import Derived.Shelf.Abstract
import Derived.Shelf.RegionOpen
import Derived.OwnWalkIn
import Derived.TacticsInMore
import Derived.LoopNIn
import Derived.LoopIn
import Derived.Test.YtmmlkfkpblokiaaGreatDoorQeWr
import Derived.Maps.AppendAt
import Derived.RangeFuncBox
import Derived.ProofKit
import Derived.OpenShut
import Derived.ChangeSlices
import Derived.ChangeArms
import Derived.SizedLaws
import Derived.Test.YtmmlkfkpblokiaaGreatDoorQeWq
import Derived.Deep.Slices
namespace Go.Proofs.YtmmlkfkpblokiaaGreatDoor
set_option maxRecDepth 100000
open Go Go.RowKit Go.Sort
attribute [local go_sem] setCell_drewN alloc_drewN
def WpStay (p : Prop) : Prop := p
theorem wpList_stay {P : Program} {ops : Array Oper} {rest : List Oper} {a : Act} {w : World} {Q : Exit → Act → World → Prop} (h : WpStay (wpList P ops Q rest a w)) : wpList P ops Q rest a w := h
theorem row_set {W : World} {g : Nat} {cs : Array Value} {t : TypeId} (hg : W.heap[g]? = some (.cells cs t (0, 0))) (j : Nat) (z : Value) : (W.setCell ⟨g, j, none⟩ z).heap[g]? = some (.cells (cs.setIfInBounds j z) t (0, 0)) :=
 heap_setCell_same W g j _ t _ hg
def wkr (v : Value) : Array Value := #[v, .int .i64 0, .int .i64 0]
end Go.Proofs.YtmmlkfkpblokiaaGreatDoor
namespace Go.Proofs.YtmmlkfkpblokiaaGreatDoor
set_option maxRecDepth 100000
open Go Go.RowKit Go.Sort
attribute [local go_sem] setCell_drewN alloc_drewN
open Go.Shelf
attribute [local go_sem] Oper.semAt_some
def DecJ (w : World) (v : Value) (r : Loop) (pre : List (Nat × Fd)) (A : World) : Prop :=
 A.heap[w.heap.size + 3]? = some (.loop r) ∧ A.heap[w.heap.size + 2]? = some (.deferred (some [])) ∧ A.heap[w.heap.size + 1]? = some (.cells (wkr v) 165 (0, 0)) ∧
 (∃ u us, A.heap[w.heap.size]? = some (.cells #[u] 116 (0, 0)) ∧ Fts A (w.heap.size + 4) u us (pre.map (·.2))) ∧ Below w.heap.size w A
theorem DecJ.keep {w A C : World} {v : Value} {r : Loop} {pre : List (Nat × Fd)} (h : DecJ w v r pre A) (hb : Below A.heap.size A C) : DecJ w v r pre C := by
 obtain ⟨h1, h2, h3, ⟨u, us, h4, h5⟩, h6⟩ := h
 exact ⟨Go.Proofs.YtmmlkfkpblokiaaGreatDoor.keep hb h1, Go.Proofs.YtmmlkfkpblokiaaGreatDoor.keep hb h2, Go.Proofs.YtmmlkfkpblokiaaGreatDoor.keep hb h3, ⟨u, us, Go.Proofs.YtmmlkfkpblokiaaGreatDoor.keep hb h4, h5.keep hb⟩, Below.after h6 hb⟩
end Go.Proofs.YtmmlkfkpblokiaaGreatDoor
namespace Go.Proofs.YtmmlkfkpblokiaaGreatDoor
set_option maxRecDepth 100000
open Go Go.RowKit Go.Sort
attribute [local go_sem] setCell_drewN alloc_drewN
end Go.Proofs.YtmmlkfkpblokiaaGreatDoor
namespace Go.Proofs.YtmmlkfkpblokiaaGreatDoor
set_option maxRecDepth 100000
open Go Go.RowKit Go.Sort
/-! What is read is the one form of what it comes to; what is written is read back. -/
end Go.Proofs.YtmmlkfkpblokiaaGreatDoor
namespace Go.Proofs.YtmmlkfkpblokiaaGreatDoor
set_option maxRecDepth 100000
open Go Go.RowKit Go.Sort
attribute [local go_sem] setCell_drewN alloc_drewN
end Go.Proofs.YtmmlkfkpblokiaaGreatDoor
namespace Go.Proofs.YtmmlkfkpblokiaaGreatDoor
set_option maxRecDepth 100000
open Go Go.RowKit Go.Sort
/-! What Encode writes, Decode reads back. -/
end Go.Proofs.YtmmlkfkpblokiaaGreatDoor
namespace Go.Proofs.YtmmlkfkpblokiaaGreatDoor
set_option maxRecDepth 100000
open Go Go.ChangeShapes Go.WideShapes Go.ChangeAt Go.RowKit
theorem cU86 : Tryz.prog.cellsOf 5 = 1 := by kernel_rfl
theorem bU86 : Tryz.prog.bytesOf 5 = 1 := by kernel_rfl
theorem block_lt6 {w : World} {b o : Nat} {v : Value} (h : w.cell? ⟨b, o, none⟩ = some v) : b < w.heap.size := by
 rcases Nat.lt_or_ge b w.heap.size with q | q
 ·exact q
 ·simp [World.cell?, Array.getElem?_eq_none q] at h
def BysC (W : World) (v : Value) (d : List B) : Prop := BysB W v d ∧ d.length ≤ 140737488351232 ∧ ∀ a l c, v = .slice a l c → l ≤ c
theorem bysC_of_trod {H : Type} {enc : TypeId × Value → H} {W : World} {m : Nat} {cs : List Value} {x : DataW H × List MemPlace} (hf : DataW.trod enc Tryz.prog W 0 (fun _ => true) true m 24 cs = some x) (hs : ∀ n ∈ x.1.weights Tryz.prog 24, n ≤ reachBytes) : ∃ v d, cs = [v] ∧ BysC W v d := by
 rcases open_ints Tryz.underlying24 Tryz.underlying5 cU86 hf with ⟨hcs, hx⟩ | ⟨a, len, cap, zs, hcs, _, hl, hm, hz, hx, hcell, hwz⟩
 ·exact ⟨_, [], hcs, ⟨⟨none, 0, rfl, by decide, fun j hj => by simp [bl] at hj, bl_bnd _⟩, by decide, fun a l c h _ => by cases h; rfl⟩, by simp, fun a l c h => by cases h; exact Nat.le_refl _⟩
 ·subst hx
  simp only [if_true] at hz
  have hb := hs ((lits (H := H) .u8 (zs.take len)).length + (lits (H := H) .u8 (zs.drop len)).length) (by simp [DataW.weights, Tryz.underlying24, bU86])
  simp only [lits, List.length_map, List.length_take, List.length_drop, reachBytes] at hb
  have hlen : (zs.take len).length = len := by rw [List.length_take]; omega
  obtain ⟨d, hd, e⟩ := bl_of (zs.take len) (fun z h => u8_of_wf (hwz z (List.mem_of_mem_take h)))
  rw [hlen] at e
  refine ⟨_, d, hcs, ⟨⟨some a, cap, by rw [bl_len, e], by rw [bl_len]; omega, fun j hj => ?_, bl_bnd _⟩, by omega, fun a l c h h2 => by cases h; cases h2⟩, by omega, fun a l c h => by cases h; exact hl⟩
  rw [bl_len, e] at hj
  have hc := hcell j (by omega)
  obtain ⟨bb, off, spot⟩ := a
  have hspot : spot = none := by simpa [Addr.add] using World.cell?_spot (hcell 0 (by omega))
  subst hspot
  rw [addr_add] at hc
  refine ⟨bb, off, rfl, block_lt6 hc, ?_⟩
  rw [hc, ← hd, List.getD_eq_getElem?_getD, List.getD_eq_getElem?_getD, List.getElem?_take_of_lt hj]
end Go.Proofs.YtmmlkfkpblokiaaGreatDoor
namespace Go.Proofs.YtmmlkfkpblokiaaGreatDoor
set_option maxRecDepth 100000
open Go Go.ChangeShapes Go.WideShapes Go.ChangeAt Go.RowKit Go.Deep
/-! Fields out of the data. -/
end Go.Proofs.YtmmlkfkpblokiaaGreatDoor
namespace Go.Proofs.YtmmlkfkpblokiaaGreatDoor
set_option maxRecDepth 100000
open Go Go.RowKit Go.Sort
attribute [local go_sem] setCell_drewN alloc_drewN
end Go.Proofs.YtmmlkfkpblokiaaGreatDoor
namespace Go.Proofs.YtmmlkfkpblokiaaGreatDoor
set_option maxRecDepth 100000
open Go Go.RowKit Go.Sort
end Go.Proofs.YtmmlkfkpblokiaaGreatDoor
namespace Go.Proofs.YtmmlkfkpblokiaaGreatDoor
set_option maxRecDepth 100000
open Go Go.RowKit Go.Sort
/-! Values as trees, in memory; what check finds in them, on trees. -/
inductive VT where
 | mk (num : Nat) (dat : List B) (parts : List VT)
namespace VT
def num : VT → Nat
 | .mk n _ _ => n
def dat : VT → List B
 | .mk _ d _ => d
def parts : VT → List VT
 | .mk _ _ p => p
end VT
def vt0 : VT := .mk 0 [] []
def gvt (ps : List VT) (i : Nat) : VT := ps.getD i vt0
def lv (n : Nat) (a : Option Addr) : Option Addr := if n = 0 then none else a
theorem lv_some {n : Nat} {a : Option Addr} {x : Addr} (h : lv n a = some x) : a = some x := by
 unfold lv at h
 split at h
 ·cases h
 ·exact h
theorem lv_pos {n : Nat} {a : Option Addr} (h : 0 < n) : lv n a = a := if_neg (by omega)
def InS (W : World) (S : Nat → Prop) (da : Option Addr) : Prop := ∀ a, da = some a → S a.block ∧ a.block < W.heap.size
inductive VtM (W : World) (S : Nat → Prop) : VR → VT → Prop
 | mk (x : VR) (bs : List B) (xs : List VR) (ps : List VT) (hn : x.num < 18446744073709551616) (hdl : x.dl = bs.length) (hbl : bs.length ≤ 140737488351232) (hd : BysB W (.slice x.da x.dl x.dc) bs) (hdc : x.dl ≤ x.dc) (hds : InS W S (lv x.dl x.da))
  (hpl : x.pl = ps.length) (hxl : xs.length = ps.length) (hpc : ps.length ≤ x.pc) (hpm : ps.length ≤ 5864062014634) (hps : InS W S (lv x.pl x.pa)) (hP : ∀ i, i < ps.length → ∃ b off, x.pa = some ⟨b, off, none⟩ ∧ W.rangeAt b (off + i * 3) (vrv (gx xs i)).toList)
  (hs : ∀ i, i < ps.length → VtM W S (gx xs i) (gvt ps i)) : VtM W S x (.mk x.num bs ps)
theorem InS.keep {W V : World} {S T : Nat → Prop} {da : Option Addr} (h : InS W S da) (hk : Sty W V S T) : InS V T da := fun a e => ⟨(hk.2 _ (h a e).2 (h a e).1).2, Nat.lt_of_lt_of_le (h a e).2 hk.1⟩
theorem BysB.sty {W V : World} {S T : Nat → Prop} {da : Option Addr} {dl dc : Nat} {bs : List B} (h : BysB W (.slice da dl dc) bs) (hi : InS W S (lv dl da)) (hk : Sty W V S T) : BysB V (.slice da dl dc) bs := by
 obtain ⟨⟨ao, cap, e, hl, hc, hz⟩, h2⟩ := h
 refine ⟨⟨ao, cap, e, hl, fun j hj => ?_, hz⟩, h2⟩
 obtain ⟨b, off, e2, hb, hcell⟩ := hc j hj
 injection e with e3 e4 e5
 subst e3
 have q := hi _ ((lv_pos (by omega)).trans e2)
 refine ⟨b, off, e2, Nat.lt_of_lt_of_le hb hk.1, ?_⟩
 rw [← hcell]
 show V.cell? ⟨b, off + j, none⟩ = W.cell? ⟨b, off + j, none⟩
 simp only [World.cell?, (hk.2 b q.2 q.1).1]
theorem VtM.keep {W V : World} {S T : Nat → Prop} {x : VR} {X : VT} (h : VtM W S x X) (hk : Sty W V S T) : VtM V T x X := by
 induction h with
 | mk x bs xs ps hn hdl hbl hd hdc hds hpl hxl hpc hpm hps hP hs ih =>
  refine .mk x bs xs ps hn hdl hbl (hd.sty hds hk) hdc (hds.keep hk) hpl hxl hpc hpm (hps.keep hk) (fun i hi => ?_) ih
  obtain ⟨b, off, e, h2⟩ := hP i hi
  have q := hps _ ((lv_pos (by omega)).trans e)
  exact ⟨b, off, e, range_same h2 (hk.2 b q.2 q.1).1⟩
theorem VtM.blw {W V : World} {S : Nat → Prop} {x : VR} {X : VT} (h : VtM W S x X) (hb : Below W.heap.size W V) : VtM V S x X := h.keep (Sty.below hb)
theorem VtM.num_eq {W : World} {S : Nat → Prop} {x : VR} {X : VT} (h : VtM W S x X) : x.num = X.num ∧ x.num < 18446744073709551616 ∧ x.dl = X.dat.length ∧ x.dl ≤ 140737488351232 ∧ x.pl = X.parts.length := by
 cases h with
 | mk x bs xs ps hn hdl hbl hd hdc hds hpl hxl hpc hpm hps hP hs => exact ⟨rfl, hn, hdl, by rw [hdl]; exact hbl, hpl⟩
def PtM (W : World) (S : Nat → Prop) (pv : Value) (xs : List VR) (ps : List VT) : Prop := ∃ ao cap, pv = .slice ao ps.length cap ∧ xs.length = ps.length ∧ ps.length ≤ cap ∧ ps.length ≤ 5864062014634 ∧ (∀ i, i < ps.length → ∃ b off, ao = some ⟨b, off, none⟩ ∧ b < W.heap.size ∧ W.rangeAt b (off + i * 3) (vrv (gx xs i)).toList) ∧ ∀ i, i < ps.length → VtM W S (gx xs i) (gvt ps i)
theorem VtM.split {W : World} {S : Nat → Prop} {x : VR} {X : VT} (h : VtM W S x X) : ∃ xs, PtM W S (.slice x.pa x.pl x.pc) xs X.parts := by
 cases h with
 | mk x bs xs ps hn hdl hbl hd hdc hds hpl hxl hpc hpm hps hP hs =>
  refine ⟨xs, x.pa, x.pc, by rw [hpl]; rfl, hxl, hpc, hpm, fun i hi => ?_, hs⟩
  obtain ⟨b, off, e, h2⟩ := hP i hi
  exact ⟨b, off, e, (hps _ ((lv_pos (by rw [hpl]; exact Nat.lt_of_le_of_lt (Nat.zero_le i) hi)).trans e)).2, h2⟩
theorem PtM.blw {W V : World} {S : Nat → Prop} {pv : Value} {xs : List VR} {ps : List VT} (h : PtM W S pv xs ps) (hb : Below W.heap.size W V) : PtM V S pv xs ps := by
 obtain ⟨ao, cap, e, h1, h2, h3, h4, h5⟩ := h
 refine ⟨ao, cap, e, h1, h2, h3, fun i hi => ?_, fun i hi => (h5 i hi).blw hb⟩
 obtain ⟨b, off, q1, q2, q3⟩ := h4 i hi
 exact ⟨b, off, q1, Nat.lt_of_lt_of_le q2 hb.size, rangeS_keep2 q3 hb q2⟩
/-! What is wrong, on trees. utf: are bytes a text; flE: what is wrong with a float's bits. -/
section
variable (utf : List B → Bool) (flE : Nat → Nat → Int)
def plE8 (k : Int) (l m : Nat) (x : VT) : Int :=
 if k = 5 then wth (x.dat.length : Int) (l : Int) (m : Int)
 else if k = 6 then (if wth (x.dat.length : Int) (l : Int) (m : Int) ≠ 0 then wth (x.dat.length : Int) (l : Int) (m : Int) else if utf x.dat then 0 else 84)
 else if k = 7 then flE x.num m
 else if k = 4 then wth (x.num : Int) 0 1 else wth (x.num : Int) (l : Int) (m : Int)
def isB (k : Int) : Bool := k == 5 || k == 6
def frsT (f : VT → Option Flt3) : List VT → Option Flt3
 | [] => none
 | x :: xs => match f x with
  | some e => some e
  | none => frsT f xs
def ckN (n : Nat) (f : List VT → Int → Option Flt3) (x : VT) (deep : Int) : Option Flt3 := if x.num ≠ 0 ∨ 0 < x.dat.length then some ⟨deep, 0, 84⟩ else if x.parts.length ≠ n then some ⟨deep, 0, 81⟩ else f x.parts deep
def slN (no k : Int) (l m n : Nat) (f : List VT → Int → Option Flt3) (x : VT) (deep : Int) : Option Flt3 :=
 if k = 8 then ckN n f x (deep + 1)
 else if k = 9 then (if x.num ≠ 0 ∨ 0 < x.dat.length then some ⟨deep, no, 84⟩ else if wth (x.parts.length : Int) (l : Int) (m : Int) ≠ 0 then some ⟨deep, no, wth (x.parts.length : Int) (l : Int) (m : Int)⟩ else frsT (fun p => ckN n f p (deep + 1)) x.parts)
 else pck deep no (isB k) x.num x.dat.length x.parts.length (plE8 utf flE k l m x)
def chT : List Slt → List VT → Int → Option Flt3
 | .mk no k l m sub :: ts, x :: xs, deep => match slN utf flE no k l m sub.length (chT sub) x deep with
  | some f => some f
  | none => chT ts xs deep
 | _, _, _ => none
def ckT (ts : List Slt) (x : VT) (deep : Int) : Option Flt3 := ckN ts.length (chT utf flE ts) x deep
def slT (t : Slt) (x : VT) (deep : Int) : Option Flt3 := slN utf flE t.no t.kind t.least t.most t.sub.length (chT utf flE t.sub) x deep
theorem chT_cons (t : Slt) (ts : List Slt) (x : VT) (xs : List VT) (deep : Int) : chT utf flE (t :: ts) (x :: xs) deep = match slT utf flE t x deep with
 | some f => some f
 | none => chT utf flE ts xs deep := by
 cases t
 rw [chT]
 rfl
theorem chT_nil (xs : List VT) (deep : Int) : chT utf flE [] xs deep = none := by rw [chT]; intros; contradiction
theorem vdrop (xs : List VT) (k : Nat) (h : k < xs.length) : xs.drop k = gvt xs k :: xs.drop (k + 1) := by
 rw [List.drop_eq_getElem_cons h]
 simp [gvt, List.getD_eq_getElem?_getD, List.getElem?_eq_getElem h]
theorem chT_drop {ts : List Slt} {xs : List VT} {deep : Int} {k : Nat} (h1 : k < ts.length) (h2 : k < xs.length) : chT utf flE (ts.drop k) (xs.drop k) deep = match slT utf flE (gs ts k) (gvt xs k) deep with
 | some f => some f
 | none => chT utf flE (ts.drop (k + 1)) (xs.drop (k + 1)) deep := by
 rw [sdrop ts k h1, vdrop xs k h2, chT_cons]
theorem slT_msg {t : Slt} (h : t.kind = 8) (x : VT) (deep : Int) : slT utf flE t x deep = ckT utf flE t.sub x (deep + 1) := by unfold slT slN; rw [if_pos h]; rfl
theorem slT_lst {t : Slt} (h : t.kind = 9) (x : VT) (deep : Int) : slT utf flE t x deep = if x.num ≠ 0 ∨ 0 < x.dat.length then some ⟨deep, t.no, 84⟩ else if wth (x.parts.length : Int) (t.least : Int) (t.most : Int) ≠ 0 then some ⟨deep, t.no, wth (x.parts.length : Int) (t.least : Int) (t.most : Int)⟩ else frsT (fun p => ckT utf flE t.sub p (deep + 1)) x.parts := by
 unfold slT slN
 rw [if_neg (by omega), if_pos h]
 rfl
theorem slT_pl {t : Slt} (h8 : t.kind ≠ 8) (h9 : t.kind ≠ 9) (x : VT) (deep : Int) : slT utf flE t x deep = pck deep t.no (isB t.kind) x.num x.dat.length x.parts.length (plE8 utf flE t.kind t.least t.most x) := by
 unfold slT slN
 rw [if_neg h8, if_neg h9]
theorem frsT_drop (f : VT → Option Flt3) {xs : List VT} {k : Nat} (h : k < xs.length) : frsT f (xs.drop k) = match f (gvt xs k) with
 | some e => some e
 | none => frsT f (xs.drop (k + 1)) := by
 rw [vdrop xs k h, frsT]
end
def htT : List Slt → Int
 | [] => 0
 | .mk _ _ _ _ sub :: ts => max (htT sub + 1) (htT ts)
theorem htT_pos : ∀ ts, 0 ≤ htT ts
 | [] => by rw [htT]; omega
 | .mk _ _ _ _ sub :: ts => by rw [htT]; have := htT_pos ts; omega
theorem htT_sub : ∀ (ts : List Slt) (i : Nat), i < ts.length → htT (gs ts i).sub + 1 ≤ htT ts
 | [], _, h => by simp at h
 | .mk n k a b sub :: ts, 0, _ => by
  rw [htT]
  show htT sub + 1 ≤ _
  omega
 | .mk n k a b sub :: ts, i + 1, h => by
  have := htT_sub ts i (by simpa using h)
  rw [htT]
  show htT (gs ts i).sub + 1 ≤ _
  omega
end Go.Proofs.YtmmlkfkpblokiaaGreatDoor
namespace Go.Proofs.YtmmlkfkpblokiaaGreatDoor
set_option maxRecDepth 100000
open Go Go.RowKit Go.Sort
attribute [local go_sem] setCell_drewN alloc_drewN
set_option maxRecDepth 100000 in
set_option maxHeartbeats 4000000 in
theorem a_lfits (n l m : Int) (hn : 0 ≤ n ∧ n < 9223372036854775808) (y : Value) (w : World) : Calls Tryz.prog 128 #[.agg #[.int .u64 l, .int .u64 m, y], .int .i64 n] w fun e w' => e = .returned (.int .i64 (wth n l m)) ∧ Below w.heap.size w w' := by
 have cW := a_within n l m
 have hb : ∀ o, Below w.heap.size w (w.alloc o) := fun o => (Below.refl _ _).alloc (Nat.le_refl _) _
 have r0 := hp1_0 w (.cells #[.int .u64 l, .int .u64 m, y] 190)
 have c0 : (w.alloc (.cells #[.int .u64 l, .int .u64 m, y] 190)).cell? ⟨w.heap.size, 0, none⟩ = some (.int .u64 l) := by rw [cell_of_row _ _ _ _ _ _ r0]; rfl
 have c1 : (w.alloc (.cells #[.int .u64 l, .int .u64 m, y] 190)).cell? ⟨w.heap.size, 1, none⟩ = some (.int .u64 m) := by rw [cell_of_row _ _ _ _ _ _ r0]; rfl
 replace hb := hb (.cells #[.int .u64 l, .int .u64 m, y] 190)
 go_enter Tryz.func128, Tryz.ntmps128
 iterate 6 go_step
 generalize w.alloc (.cells #[.int .u64 l, .int .u64 m, y] 190) = w0 at *
 clear r0
 go_wp2_with (fail)
 refine (cW.at _).mono ?_
 rintro e_ w1 ⟨rfl, hb1⟩
 replace hb := Below.after hb hb1
 go_wp2
 go_ret
 exact ⟨rfl, hb⟩
set_option maxRecDepth 100000 in
set_option maxHeartbeats 4000000 in
theorem a_inner1 (x : VR) (deep : Int) (hd : -9223372036854775808 ≤ deep ∧ deep + 1 ≤ 9223372036854775807) (g : Nat) (so : Option Addr) (sn sc : Nat) (w : World) (F : Option Flt3) (hg : Bx w g #[.slice so sn sc])
 (hC : ∀ V, Below w.heap.size w V → Calls Tryz.prog 33 #[.slice so sn sc, .agg (vrv x), .int .i64 (deep + 1)] V fun e w' => Gup V.heap.size F e w' (fun v => v = .tuple #[]) ∧ Below V.heap.size V w') :
 Calls Tryz.prog 123 #[.agg (vrv x), .int .i64 deep, ptr g] w fun e w' => Gup w.heap.size F e w' (fun v => v = .tuple #[]) ∧ Below w.heap.size w w' := by
 obtain ⟨T, hg⟩ := hg
 have lg := lt_of_row hg
 obtain ⟨xn, xda, xdl, xdc, xpa, xpl, xpc⟩ := x
 unfold vrv vrw at *
 have hb : Below w.heap.size w (w.alloc (.cells #[.int .u64 (xn : Int), .slice xda xdl xdc, .slice xpa xpl xpc] 27)) := (Below.refl _ _).alloc (Nat.le_refl _) _
 have r0 := hp1_0 w (.cells #[.int .u64 (xn : Int), .slice xda xdl xdc, .slice xpa xpl xpc] 27)
 have rg := keep hb hg
 have cg := cell_of_row _ _ 0 _ _ _ rg
 have cF := hC _ hb
 unfold ptr
 clear hC rg
 go_enter Tryz.func123, Tryz.ntmps123
 iterate 6 go_step
 generalize w.alloc (.cells #[.int .u64 (xn : Int), .slice xda xdl xdc, .slice xpa xpl xpc] 27) = w0 at *
 go_wp2_with (first | (refine wpList_load_want rfl 27 _ rfl w.heap.size rfl 27 #[.int .u64 (xn : Int), .slice xda xdl xdc, .slice xpa xpl xpc] (0, 0) _ r0 Tryz.underlying27 rfl infoV ?_) | fail)
 refine cF.mono ?_
 rintro e_ w1 ⟨hG, hb1⟩
 have hsz := hb.size
 replace hb := Below.after hb hb1
 cases F with
 | none =>
  obtain ⟨v, rfl, rfl⟩ := hG
  go_wp2_with (fail)
  go_end0
  exact ⟨⟨_, rfl, rfl⟩, hb⟩
 | some f =>
  obtain ⟨q, rfl, h1, h2⟩ := hG
  go_wp2
  exact ⟨rfl, ⟨q, rfl, Nat.le_trans hsz h1, h2⟩, hb⟩
def lsE (deep no l m : Int) (X : VT) (F : Option Flt3) : Option Flt3 := if X.num ≠ 0 ∨ 0 < X.dat.length then some ⟨deep, no, 84⟩ else if wth (X.parts.length : Int) l m ≠ 0 then some ⟨deep, no, wth (X.parts.length : Int) l m⟩ else F
set_option maxRecDepth 100000 in
set_option maxHeartbeats 8000000 in
theorem a_listed1 {S : Nat → Prop} (x : VR) (X : VT) (deep no l m : Int) (hd : -9223372036854775808 ≤ deep ∧ deep + 1 ≤ 9223372036854775807) (g0 g1 g2 : Nat) (y : Value) (so : Option Addr) (sn sc : Nat) (w : World) (f : VT → Option Flt3) (hX : VtM w S x X) (h0 : Bx w g0 #[.int .i64 no]) (h1 : Bx w g1 #[.int .u64 l, .int .u64 m, y]) (h2 : Bx w g2 #[.slice so sn sc])
 (hC : ∀ V z Z, Below w.heap.size w V → VtM V S z Z → Calls Tryz.prog 33 #[.slice so sn sc, .agg (vrv z), .int .i64 (deep + 1)] V fun e w' => Gup V.heap.size (f Z) e w' (fun v => v = .tuple #[]) ∧ Below V.heap.size V w') :
 Calls Tryz.prog 127 #[.agg (vrv x), .int .i64 deep, ptr g0, ptr g1, ptr g2] w fun e w' => Gup w.heap.size (lsE deep no l m X (frsT f X.parts)) e w' (fun v => v = .tuple #[]) ∧ Below w.heap.size w w' := by
 obtain ⟨T0, h0⟩ := h0
 obtain ⟨T1, h1⟩ := h1
 obtain ⟨T2, h2⟩ := h2
 have l0 := lt_of_row h0
 have l1 := lt_of_row h1
 have l2 := lt_of_row h2
 obtain ⟨en, enb, ed, edb, ep⟩ := hX.num_eq
 obtain ⟨xs, hP⟩ := hX.split
 obtain ⟨R, hR⟩ : ∃ R, lsE deep no l m X (frsT f X.parts) = R := ⟨_, rfl⟩
 rw [hR]
 generalize hps : X.parts = ps at *
 obtain ⟨xn, xda, xdl, xdc, xpa, xpl, xpc⟩ := x
 simp only at en enb ed edb ep hP
 obtain ⟨ao, cap, e, hxl, hcap, hpm, hrow, hvt⟩ := hP
 injection e with e1 e2 e3
 subst e1 e2 e3
 have hb : Below w.heap.size w (w.alloc (.cells #[.int .u64 (xn : Int), .slice xda xdl xdc, .slice xpa ps.length xpc] 27)) := (Below.refl _ _).alloc (Nat.le_refl _) _
 have r0 := hp1_0 w (.cells #[.int .u64 (xn : Int), .slice xda xdl xdc, .slice xpa ps.length xpc] 27)
 have h0' := keep hb h0
 have h1' := keep hb h1
 have c0 := cell_of_row _ _ 0 _ _ _ h0'
 have d0 := cell_of_row _ _ 0 _ _ _ r0
 have d1 := cell_of_row _ _ 1 _ _ _ r0
 have d2 := cell_of_row _ _ 2 _ _ _ r0
 unfold vrv vrw ptr
 by_cases hbad : xn ≠ 0 ∨ 0 < xdl
 ·have eR : R = some ⟨deep, no, 84⟩ := by rw [← hR, lsE, if_pos (by rw [← en, ← ed]; exact hbad)]
  have cG := a_giveUp deep no 84
  replace eR := hide eR
  clear hC hrow hvt hX hR h1 h1' h2 hps en ed
  rcases Nat.eq_zero_or_pos xn with rfl | hnp
  ·have hq : decide ((xdl : Int) > 0) = true := by simp; omega
   go_enter Tryz.func127, Tryz.ntmps127
   iterate 6 go_step
   generalize w.alloc (.cells #[.int .u64 ((0 : Nat) : Int), .slice xda xdl xdc, .slice xpa ps.length xpc] 27) = w0 at *
   go_wp2_with (fail)
   refine (cG _).mono ?_
   rintro e_ w2 ⟨⟨q, rfl, hql, hqr⟩, hb2⟩
   have hsz := hb.size
   replace hb := Below.after hb hb2
   go_wp2
   rw [eR.out]
   exact ⟨rfl, ⟨q, rfl, Nat.le_trans hsz hql, hqr⟩, hb⟩
  ·have hq : ((xn : Int) == 0) = false := by simp; omega
   have hq2 : ¬ (xn : Int) = 0 := by omega
   go_enter Tryz.func127, Tryz.ntmps127
   iterate 6 go_step
   generalize w.alloc (.cells #[.int .u64 (xn : Int), .slice xda xdl xdc, .slice xpa ps.length xpc] 27) = w0 at *
   go_wp2_with (fail)
   refine (cG _).mono ?_
   rintro e_ w2 ⟨⟨q, rfl, hql, hqr⟩, hb2⟩
   have hsz := hb.size
   replace hb := Below.after hb hb2
   go_wp2
   rw [eR.out]
   exact ⟨rfl, ⟨q, rfl, Nat.le_trans hsz hql, hqr⟩, hb⟩
 ·obtain ⟨E, hE⟩ : ∃ E, wth (ps.length : Int) l m = E := ⟨_, rfl⟩
  have cL := a_lfits (ps.length : Int) l m (by omega) y
  rw [hE] at cL
  have infoLs : (Tryz.prog.info? 190).map (·.size) = some 3 := by kernel_rfl
  have eR0 : R = if E ≠ 0 then some ⟨deep, no, E⟩ else frsT f ps := by rw [← hR, lsE, if_neg (by rw [← en, ← ed]; omega), hps, hE]
  clear hR en ed hX
  obtain rfl : xn = 0 := by omega
  obtain rfl : xdl = 0 := by omega
  clear hbad
  by_cases hz : E = 0
  ·have eR : R = frsT f (ps.drop 0) := by rw [eR0, if_neg (by omega)]; rfl
   subst hz
   replace eR := hide eR
   have H2 := hide h2
   have HR := hide hrow
   have HV := hide hvt
   replace hE := hide hE
   clear eR0 h0 h1 h2 hrow hvt c0 h0' hps
   go_enter Tryz.func127, Tryz.ntmps127
   iterate 6 go_step
   generalize w.alloc (.cells #[.int .u64 ((0 : Nat) : Int), .slice xda 0 xdc, .slice xpa ps.length xpc] 27) = w0 at *
   go_wp2_with (first | (refine wpList_load_want rfl 190 _ rfl g1 rfl T1 #[.int .u64 l, .int .u64 m, y] (0, 0) _ h1' Tryz.underlying190 rfl infoLs ?_) | fail)
   refine (cL _).mono ?_
   rintro e_ w1 ⟨rfl, hb1⟩
   replace r0 := keep hb1 r0
   have d2' := cell_of_row _ _ 2 _ _ _ r0
   replace hb := Below.after hb hb1
   clear d0 d1 d2 h1' cL hb1
   go_wp2_with (fail)
   go_loopw [36, 9] (fun i _ wr => ∃ k : Nat, k ≤ ps.length ∧ i = .int .i64 k ∧ R = frsT f (ps.drop k) ∧ Below w.heap.size w wr) (fun i _ _ => ps.length - (intOf i).toNat)
   case atStart => exact ⟨0, by omega, rfl, eR.out, hb⟩
   case round =>
    clear r0 hb eR d2'
    obtain ⟨k, hk, rfl, eR, hb⟩ := hrel
    by_cases hlt : k < ps.length
    ·have hd2 : decide ((k : Int) < (ps.length : Int)) = true := by simp; omega
     obtain ⟨b, off, hxe, hbl, hra⟩ := HR.out k hlt
     subst hxe
     have hvz := (HV.out k hlt).blw hb
     have hpw := rangeS_keep2 hra hb hbl
     rw [frsT_drop f hlt] at eR
     have hcc := fun V hV (hz : VtM V S (gx xs k) (gvt ps k)) => hC V _ _ hV hz
     obtain ⟨Fk, hFk⟩ : ∃ Fk, f (gvt ps k) = Fk := ⟨_, rfl⟩
     rw [hFk] at eR hcc
     clear hFk hra HR HV hC
     generalize gvt ps k = Z at *
     generalize gx xs k = z at *
     obtain ⟨zn, zda, zdl, zdc, zpa, zpl, zpc⟩ := z
     unfold vrv vrw at *
     have hba : Below wr.heap.size wr (wr.alloc (.cells #[.int .u64 0, .slice none 0 0, .slice none 0 0] 27)) := (Below.refl _ _).alloc (Nat.le_refl _) _
     have rS := hp1_0 wr (.cells #[.int .u64 0, .slice none 0 0, .slice none 0 0] 27)
     have hbb := below_setRow (g := wr.heap.size) hba (Nat.le_refl _) #[.int .u64 (zn : Int), .slice zda zdl zdc, .slice zpa zpl zpc]
     have rS2 := setRow_heap _ wr.heap.size _ #[.int .u64 (zn : Int), .slice zda zdl zdc, .slice zpa zpl zpc] _ _ rS
     have hvz2 := hvz.blw hbb
     have hbw := Below.after hb hbb
     have cg2 := cell_of_row _ _ 0 _ _ _ (keep hbw H2.out)
     have hone : (#[.int .u64 (zn : Int), .slice zda zdl zdc, .slice zpa zpl zpc] : Array Value).all (·.oneCell') = true := by simp [Value.oneCell']
     have A1 := hide hvz2
     have A2 := hide hbw
     have A3 := hide rS2
     have A4 := hide hcc
     have A5 := hide eR
     have A6 := hide cg2
     clear hvz hvz2 hbw rS2 hcc eR cg2 hba hbb hb
     go_wp2_with (first | (refine wpList_load_mid rfl 27 _ rfl b (off + k * 3) rfl _ _ hpw Tryz.underlying27 rfl infoV ?_) | (refine wpList_store_row rfl 27 _ _ rfl wr.heap.size #[.int .u64 (zn : Int), .slice zda zdl zdc, .slice zpa zpl zpc] rfl rfl 27 _ rS infoV rfl hone ?_; refine wpList_stay ?_) | fail)
     unfold WpStay
     generalize (wr.alloc (.cells #[.int .u64 0, .slice none 0 0, .slice none 0 0] 27)).setRow wr.heap.size #[.int .u64 (zn : Int), .slice zda zdl zdc, .slice zpa zpl zpc] = w2 at *
     have cg2 := A6.out
     have rS2 := A3.out
     clear rS A6 A3 hpw
     go_wp2_with (first | (refine wpList_load_want rfl 27 _ rfl wr.heap.size rfl 27 #[.int .u64 (zn : Int), .slice zda zdl zdc, .slice zpa zpl zpc] (0, 0) _ rS2 Tryz.underlying27 rfl infoV ?_) | fail)
     refine (A4.out _ A2.out A1.out).mono ?_
     rintro e_ w3 ⟨hGk, hb3⟩
     have hsz := A2.out.size
     have hb := Below.after A2.out hb3
     clear A1 A2 A4 hb3 cg2 rS2
     cases Fk with
     | none =>
      obtain ⟨v, rfl, rfl⟩ := hGk
      go_wp2_with (fail)
      refine ⟨⟨k + 1, by omega, by go_num, A5.out, hb⟩, ?_⟩
      simp [intOf]; omega
     | some f' =>
      obtain ⟨q, rfl, h1, h2⟩ := hGk
      go_wp2
      rw [A5.out]
      exact ⟨rfl, ⟨q, rfl, Nat.le_trans hsz h1, h2⟩, hb⟩
    ·have hd2 : decide ((k : Int) < (ps.length : Int)) = false := by simp; omega
     obtain rfl : k = ps.length := by omega
     rw [List.drop_length, frsT] at eR
     replace eR := hide eR
     clear HR HV hC
     go_wp2_with (fail)
     go_end0
     rw [eR.out]
     exact ⟨⟨_, rfl, rfl⟩, hb⟩
  ·have eR : R = some ⟨deep, no, E⟩ := by rw [eR0, if_pos hz]
   have cG := a_giveUp deep no E
   have hz2 : (E == 0) = false := by simpa using hz
   replace eR := hide eR
   clear hC hrow hvt eR0 h1 h2 hps c0
   go_enter Tryz.func127, Tryz.ntmps127
   iterate 6 go_step
   generalize w.alloc (.cells #[.int .u64 ((0 : Nat) : Int), .slice xda 0 xdc, .slice xpa ps.length xpc] 27) = w0 at *
   go_wp2_with (first | (refine wpList_load_want rfl 190 _ rfl g1 rfl T1 #[.int .u64 l, .int .u64 m, y] (0, 0) _ h1' Tryz.underlying190 rfl infoLs ?_) | fail)
   refine (cL _).mono ?_
   rintro e_ w1 ⟨rfl, hb1⟩
   have c0 := cell_of_row _ _ 0 _ _ _ (keep hb1 h0')
   replace hb := Below.after hb hb1
   clear d0 d1 d2 h1' cL hb1 h0' r0
   go_wp2_with (fail)
   refine (cG _).mono ?_
   rintro e_ w2 ⟨⟨q, rfl, hql, hqr⟩, hb2⟩
   have hsz := hb.size
   replace hb := Below.after hb hb2
   go_wp2
   rw [eR.out]
   exact ⟨rfl, ⟨q, rfl, Nat.le_trans hsz hql, hqr⟩, hb⟩
end Go.Proofs.YtmmlkfkpblokiaaGreatDoor
namespace Go.Proofs.YtmmlkfkpblokiaaGreatDoor
set_option maxRecDepth 100000
open Go Go.RowKit Go.Sort
attribute [local go_sem] setCell_drewN alloc_drewN
structure Plo (utf : List B → Bool) (flE : Nat → Nat → Int) (G : World → Prop) : Prop where
 keep : ∀ w w', G w → Below w.heap.size w w' → G w'
 txt : ∀ w da dl dc bs, G w → dl ≤ dc → BysB w (.slice da dl dc) bs → Calls Tryz.prog 122 #[.slice da dl dc] w fun e w' => e = .returned (.bool (utf bs)) ∧ Below w.heap.size w w'
 flt : ∀ w (n m : Nat), n < 18446744073709551616 → Calls Tryz.prog 93 #[.agg #[.float .f64 (floatOfInt .f64 (m : Int))], .int .u64 (n : Int)] w fun e w' => e = .returned (.int .i64 (flE n m)) ∧ Below w.heap.size w w'
def txE (utf : List B → Bool) (l m : Int) (bs : List B) : Int := if wth (bs.length : Int) l m ≠ 0 then wth (bs.length : Int) l m else if utf bs then 0 else 84
set_option maxRecDepth 100000 in
set_option maxHeartbeats 4000000 in
theorem a_octetsT {utf : List B → Bool} {flE : Nat → Nat → Int} {G : World → Prop} (hp : Plo utf flE G) (da : Option Addr) (dl dc : Nat) (hcp : dl ≤ dc) (bs : List B) (l m : Int) (hdl : dl < 9223372036854775808) (w : World) (hG : G w) (hB : BysB w (.slice da dl dc) bs) (hbl : dl = bs.length) : Calls Tryz.prog 95 #[.agg #[.int .u64 l, .int .u64 m, .bool true], .slice da dl dc] w fun e w' => e = .returned (.int .i64 (txE utf l m bs)) ∧ Below w.heap.size w w' := by
 have cW := a_within (dl : Int) l m
 have hb : ∀ o, Below w.heap.size w (w.alloc o) := fun o => (Below.refl _ _).alloc (Nat.le_refl _) _
 obtain ⟨R, hR⟩ : ∃ R, txE utf l m bs = R := ⟨_, rfl⟩
 rw [hR]
 unfold txE at hR
 rw [← hbl] at hR
 clear hbl
 generalize hE : wth (dl : Int) l m = E at *
 go_enter Tryz.func95, Tryz.ntmps95
 go_wp2_with (fail)
 refine (cW.at _).mono ?_
 rintro e_ w1 ⟨rfl, hb1⟩
 have r0 := keep hb1 (hp1_0 w (.cells #[.int .u64 l, .int .u64 m, .bool true] 186))
 have c2 : w1.cell? ⟨w.heap.size, 2, none⟩ = some (.bool true) := by rw [cell_of_row _ _ _ _ _ _ r0]; rfl
 replace hb1 := Below.after (hb _) hb1
 replace hE := hide hE
 rcases hz : (E == 0)
 ·have hz2 : ¬ E = 0 := by simpa using hz
  rw [if_pos hz2] at hR
  replace hR := hide hR
  clear r0 cW
  go_wp2
  go_ret
  exact ⟨by rw [← hR.out]; rfl, hb1⟩
 ·have hz2 : E = 0 := by simpa using hz
  subst hz2
  rw [if_neg (by simp)] at hR
  have cT := hp.txt w1 da dl dc bs (hp.keep _ _ hG hb1) hcp (hB.keep hb1)
  generalize utf bs = B at *
  replace hR := hide hR
  clear r0 cW hz
  go_wp2_with (fail)
  refine cT.mono ?_
  rintro e_ w2 ⟨rfl, hb2⟩
  replace hb1 := Below.after hb1 hb2
  cases B
  ·go_wp2
   go_ret
   exact ⟨by rw [← hR.out]; rfl, hb1⟩
  ·go_wp2
   go_ret
   exact ⟨by rw [← hR.out]; rfl, hb1⟩
set_option maxRecDepth 100000 in
set_option maxHeartbeats 4000000 in
theorem a_fitTxt {utf : List B → Bool} {flE : Nat → Nat → Int} {G : World → Prop} (hp : Plo utf flE G) (n : Nat) (da : Option Addr) (dl dc : Nat) (hcp : dl ≤ dc) (pa : Option Addr) (pl pc : Nat) (bs : List B) (l m : Int) (hdl : dl < 9223372036854775808) (g : Nat) (w : World) (hG : G w) (hB : BysB w (.slice da dl dc) bs) (hbl : dl = bs.length) (hg : Bx w g #[.int .u64 l, .int .u64 m, .bool true]) : Calls Tryz.prog 94 #[.agg (vrw n (.slice da dl dc) (.slice pa pl pc)), .pointer (some ⟨g, 0, none⟩)] w fun e w' => e = .returned (.int .i64 (txE utf l m bs)) ∧ Below w.heap.size w w' := by
 obtain ⟨T, hg⟩ := hg
 have hlt := lt_of_row hg
 have hb : ∀ o, Below w.heap.size w (w.alloc o) := fun o => (Below.refl _ _).alloc (Nat.le_refl _) _
 have cO := fun V (hV : Below w.heap.size w V) => a_octetsT hp da dl dc hcp bs l m hdl V (hp.keep _ _ hG hV) (hB.keep hV) hbl
 have hg2 := fun o => keep (hb o) hg
 replace cO := hide cO
 clear hbl hB hG
 unfold vrw
 go_enter Tryz.func94, Tryz.ntmps94
 go_wp2_with (first | (refine wpList_load_want rfl 186 _ rfl g rfl T #[.int .u64 l, .int .u64 m, .bool true] (0, 0) _ (hg2 _) Tryz.underlying186 rfl infoOct ?_) | fail)
 refine (cO.out _ (hb _)).mono ?_
 rintro e_ w1 ⟨rfl, hb1⟩
 replace hb1 := Below.after (hb _) hb1
 clear cO hg2 hg
 go_wp2
 go_ret
 exact ⟨rfl, hb1⟩
theorem infoFlo : (Tryz.prog.info? 183).map (·.size) = some 1 := by kernel_rfl
set_option maxRecDepth 100000 in
set_option maxHeartbeats 4000000 in
theorem a_fitFlt {utf : List B → Bool} {flE : Nat → Nat → Int} {G : World → Prop} (hp : Plo utf flE G) (n m : Nat) (hn : n < 18446744073709551616) (da : Option Addr) (dl dc : Nat) (pa : Option Addr) (pl pc : Nat) (g : Nat) (w : World) (hg : Bx w g #[.float .f64 (floatOfInt .f64 (m : Int))]) : Calls Tryz.prog 92 #[.agg (vrw n (.slice da dl dc) (.slice pa pl pc)), .pointer (some ⟨g, 0, none⟩)] w fun e w' => e = .returned (.int .i64 (flE n m)) ∧ Below w.heap.size w w' := by
 obtain ⟨T, hg⟩ := hg
 have hlt := lt_of_row hg
 have hb : ∀ o, Below w.heap.size w (w.alloc o) := fun o => (Below.refl _ _).alloc (Nat.le_refl _) _
 have cO := fun V => hp.flt V n m hn
 generalize floatOfInt .f64 (m : Int) = F at *
 have hg2 := fun o => keep (hb o) hg
 have cg := fun o => cell_of_row _ _ 0 _ _ _ (hg2 o)
 replace cO := hide cO
 unfold vrw
 go_enter Tryz.func92, Tryz.ntmps92
 go_wp2_with (first | (refine wpList_load_want rfl 183 _ rfl g rfl T #[.float .f64 F] (0, 0) _ (hg2 _) Tryz.underlying183 rfl infoFlo ?_) | fail)
 refine (cO.out _).mono ?_
 rintro e_ w1 ⟨rfl, hb1⟩
 replace hb1 := Below.after (hb _) hb1
 clear cO hg2 hg cg
 go_wp2
 go_ret
 exact ⟨rfl, hb1⟩
theorem a_slotCheckT {utf : List B → Bool} {flE : Nat → Nat → Int} {G : World → Prop} (hp : Plo utf flE G) {W : World} {S0 : Nat → Prop} {t : Slt} {u : Value} {row : Array Value} (h : SlC W S0 t u row) (hG : G W)
 (hu : nst t → ∃ so sn sc, u = .slice so sn sc)
 (hsub : nst t → ∀ (S : Nat → Prop) (x : VR) (X : VT) (deep : Int) (w : World), VtM w S x X → Below W.heap.size W w → -9223372036854775808 ≤ deep → deep + htT t.sub ≤ 9223372036854775807 → Calls Tryz.prog 33 #[u, .agg (vrv x), .int .i64 deep] w fun e w' => Gup w.heap.size (ckT utf flE t.sub X deep) e w' (fun v => v = .tuple #[]) ∧ Below w.heap.size w w') :
 ∃ wt k1 k2 k3 a1 a2 a3, row = rdv t.no wt k1 k2 k3 a1 a2 a3 ∧ (∀ args W, (callFunc k1 args).run Tryz.prog W = .ok (.enter k1 args) W) ∧
 ∀ (S : Nat → Prop) (x : VR) (X : VT) (deep : Int) (w : World), VtM w S x X → Below W.heap.size W w → -9223372036854775808 ≤ deep → deep + (htT t.sub + 1) ≤ 9223372036854775807 → Calls Tryz.prog k1 (#[.agg (vrv x), .int .i64 deep] ++ a1) w fun e w' => Gup w.heap.size (slT utf flE t X deep) e w' (fun v => v = .tuple #[]) ∧ Below w.heap.size w w' := by
 have num : ∀ (wt l m : Int), PlC W S0 t.no wt 90 #[.int .i64 wt, .int .u64 l, .int .u64 m] row → wt ≠ 2 → isB t.kind = false → t.kind ≠ 8 → t.kind ≠ 9 → (∀ X : VT, plE8 utf flE t.kind t.least t.most X = wth (X.num : Int) l m) → ∃ wt k1 k2 k3 a1 a2 a3, row = rdv t.no wt k1 k2 k3 a1 a2 a3 ∧ (∀ args W, (callFunc k1 args).run Tryz.prog W = .ok (.enter k1 args) W) ∧
  ∀ (S : Nat → Prop) (x : VR) (X : VT) (deep : Int) (w : World), VtM w S x X → Below W.heap.size W w → -9223372036854775808 ≤ deep → deep + (htT t.sub + 1) ≤ 9223372036854775807 → Calls Tryz.prog k1 (#[.agg (vrv x), .int .i64 deep] ++ a1) w fun e w' => Gup w.heap.size (slT utf flE t X deep) e w' (fun v => v = .tuple #[]) ∧ Below w.heap.size w w' := by
  intro wt l m ⟨g0, g1, g2, g4, gs, e, h0, h1, h2, h4, h5⟩ hwt hB h8 h9 hE
  refine ⟨wt, _, _, _, _, _, _, e, ent_plain1, fun S x X deep w hx hb _ _ => ?_⟩
  have hb2 : (wt == 2) = false := by simpa using hwt
  rw [hb2] at h4
  obtain ⟨en, enb, ed, edb, ep⟩ := hx.num_eq
  rw [slT_pl utf flE h8 h9, hE X, hB, ← en, ← ed, ← ep]
  exact a_plain1 _ (.inl rfl) x.num x.da x.dl x.dc x.pa x.pl x.pc deep t.no false _ g4 g0 g2 gs w (h4.2.keep hb) (h0.2.keep hb) (h2.2.keep hb) (fun V hV => a_fitNum x.num x.da x.dl x.dc x.pa x.pl x.pc wt l m gs V (h5.2.keep (Below.after hb hV)))
 rcases h with ⟨hk, h⟩ | ⟨hk, h⟩ | ⟨hk, h⟩ | ⟨hk, h⟩ | ⟨hk, h⟩ | ⟨hk, h⟩ | ⟨hk, h⟩ | ⟨hk, h⟩
 ·exact num 0 _ _ h (by decide) (by rw [hk]; rfl) (by omega) (by omega) (fun X => by unfold plE8; rw [if_neg (by omega), if_neg (by omega), if_neg (by omega), if_neg (by omega)])
 ·exact num 5 _ _ h (by decide) (by rw [hk]; rfl) (by omega) (by omega) (fun X => by unfold plE8; rw [if_neg (by omega), if_neg (by omega), if_neg (by omega), if_neg (by omega)])
 ·exact num 1 _ _ h (by decide) (by rw [hk]; rfl) (by omega) (by omega) (fun X => by unfold plE8; rw [if_neg (by omega), if_neg (by omega), if_neg (by omega), if_neg (by omega)])
 ·exact num 0 _ _ h (by decide) (by rw [hk]; rfl) (by omega) (by omega) (fun X => by unfold plE8; rw [if_neg (by omega), if_neg (by omega), if_neg (by omega), if_pos hk])
 ·obtain ⟨g0, g1, g2, g4, gs, e, h0, h1, h2, h4, h5⟩ := h
  refine ⟨2, _, _, _, _, _, _, e, ent_plain1, fun S x X deep w hx hb _ _ => ?_⟩
  obtain ⟨en, enb, ed, edb, ep⟩ := hx.num_eq
  rw [slT_pl utf flE (by omega) (by omega), ← en, ← ed, ← ep]
  rcases hk with hk | hk
  ·rw [show (t.kind == 6) = false by rw [hk]; rfl] at h5
   rw [show isB t.kind = true by rw [hk]; rfl, show plE8 utf flE t.kind t.least t.most X = wth (x.dl : Int) (t.least : Int) (t.most : Int) by unfold plE8; rw [if_pos hk, ed]]
   exact a_plain1 _ (.inr (.inr rfl)) x.num x.da x.dl x.dc x.pa x.pl x.pc deep t.no true _ g4 g0 g2 gs w (h4.2.keep hb) (h0.2.keep hb) (h2.2.keep hb) (fun V hV => a_fitOct x.num x.da x.dl x.dc x.pa x.pl x.pc _ _ (by omega) gs V (h5.2.keep (Below.after hb hV)))
  ·rw [show (t.kind == 6) = true by rw [hk]; rfl] at h5
   rw [show isB t.kind = true by rw [hk]; rfl, show plE8 utf flE t.kind t.least t.most X = txE utf (t.least : Int) (t.most : Int) X.dat by unfold plE8 txE; rw [if_neg (by omega), if_pos hk]]
   have hBB : BysB w (.slice x.da x.dl x.dc) X.dat ∧ x.dl ≤ x.dc := by
    cases hx with
    | mk x bs xs ps hn hdl hbl hd hdc hds hpl hxl hpc hpm hps hP hs => exact ⟨hd, hdc⟩
   exact a_plain1 _ (.inr (.inr rfl)) x.num x.da x.dl x.dc x.pa x.pl x.pc deep t.no true _ g4 g0 g2 gs w (h4.2.keep hb) (h0.2.keep hb) (h2.2.keep hb) (fun V hV => a_fitTxt hp x.num x.da x.dl x.dc hBB.2 x.pa x.pl x.pc X.dat _ _ (by omega) gs V (hp.keep _ _ hG (Below.after hb hV)) (hBB.1.keep hV) ed (h5.2.keep (Below.after hb hV)))
 ·obtain ⟨g0, g1, g2, g4, gs, e, h0, h1, h2, h4, h5⟩ := h
  refine ⟨1, _, _, _, _, _, _, e, ent_plain1, fun S x X deep w hx hb _ _ => ?_⟩
  obtain ⟨en, enb, ed, edb, ep⟩ := hx.num_eq
  rw [slT_pl utf flE (by omega) (by omega), ← en, ← ed, ← ep]
  rw [show isB t.kind = false by rw [hk]; rfl, show plE8 utf flE t.kind t.least t.most X = flE x.num t.most by unfold plE8; rw [if_neg (by omega), if_neg (by omega), if_pos hk, en]]
  exact a_plain1 _ (.inr (.inl rfl)) x.num x.da x.dl x.dc x.pa x.pl x.pc deep t.no false _ g4 g0 g2 gs w (h4.2.keep hb) (h0.2.keep hb) (h2.2.keep hb) (fun V hV => a_fitFlt hp x.num t.most enb x.da x.dl x.dc x.pa x.pl x.pc gs V (h5.2.keep (Below.after hb hV)))
 ·obtain ⟨so, sn, sc, rfl⟩ := hu (.inl hk)
  obtain ⟨g0, g1, e, h0, h1⟩ := h
  refine ⟨2, _, _, _, _, _, _, e, fun args W => by kernel_rfl, fun S x X deep w hx hb hd1 hd2 => ?_⟩
  have := htT_pos t.sub
  rw [slT_msg utf flE hk]
  exact a_inner1 x deep ⟨hd1, by omega⟩ g1 so sn sc w _ (h1.2.keep hb) (fun V hV => hsub (.inl hk) S x X (deep + 1) V (hx.blw hV) (Below.after hb hV) (by omega) (by omega))
 ·obtain ⟨so, sn, sc, rfl⟩ := hu (.inr hk)
  obtain ⟨g0, g1, g2, y, e, h0, h1, h2⟩ := h
  refine ⟨2, _, _, _, _, _, _, e, fun args W => by kernel_rfl, fun S x X deep w hx hb hd1 hd2 => ?_⟩
  have := htT_pos t.sub
  rw [slT_lst utf flE hk]
  exact a_listed1 x X deep t.no (t.least : Int) (t.most : Int) ⟨hd1, by omega⟩ g0 g1 g2 y so sn sc w (fun Z => ckT utf flE t.sub Z (deep + 1)) hx (h0.2.keep hb) (h1.2.keep hb) (h2.2.keep hb) (fun V z Z hV hZ => hsub (.inr hk) S z Z (deep + 1) V hZ (Below.after hb hV) (by omega) (by omega))
end Go.Proofs.YtmmlkfkpblokiaaGreatDoor
namespace Go.Proofs.YtmmlkfkpblokiaaGreatDoor
set_option maxRecDepth 100000
open Go Go.RowKit Go.Sort
attribute [local go_sem] setCell_drewN alloc_drewN
set_option maxRecDepth 100000 in
set_option maxHeartbeats 8000000 in
theorem a_checkT {utf : List B → Bool} {flE : Nat → Nat → Int} {G : World → Prop} (hp : Plo utf flE G) {W : World} {S0 : Nat → Prop} {v : Value} {ts : List Slt} (h : RdL W S0 v ts) (hG : G W) : ∀ (S : Nat → Prop) (x : VR) (X : VT) (deep : Int) (w : World), VtM w S x X → Below W.heap.size W w → -9223372036854775808 ≤ deep → deep + htT ts ≤ 9223372036854775807 →
 Calls Tryz.prog 33 #[v, .agg (vrv x), .int .i64 deep] w fun e w' => Gup w.heap.size (ckT utf flE ts X deep) e w' (fun v => v = .tuple #[]) ∧ Below w.heap.size w w' := by
 induction h with
 | mk ao cap ts rows us hl hc hnn h hs ih =>
  intro S x X deep w hX hw hd1 hd2
  obtain ⟨en, enb, ed, edb, ep⟩ := hX.num_eq
  obtain ⟨xs, hP⟩ := hX.split
  obtain ⟨n, da, dl, dc, pa, pl, pc⟩ := x
  simp only at en enb ed edb ep hP
  have eck : ckT utf flE ts X deep = if n ≠ 0 ∨ 0 < dl then some ⟨deep, 0, 84⟩ else if X.parts.length ≠ ts.length then some ⟨deep, 0, 81⟩ else chT utf flE ts X.parts deep := by rw [en, ed]; rfl
  generalize X.parts = ps at *
  obtain ⟨pa', pc', e, hxl, hpc, hpm, hpr, hvt⟩ := hP
  injection e with e1 e2 e3
  subst e1 e2 e3
  have hsl := fun k (hlt : k < ts.length) => fun hSl => a_slotCheckT hp (W := W) (S0 := S0) (t := gs ts k) (u := us k) (row := rows k) hSl hG (fun hn => by obtain ⟨a, c, q⟩ := (hs k hlt hn).form; exact ⟨a, _, c, q⟩) (fun hn => ih k hlt hn)
  unfold vrv
  clear en ed ep hX hs ih
  have hb0 : Below w.heap.size w (w.alloc (.cells (vrw n (.slice da dl dc) (.slice pa ps.length pc)) 27)) := (Below.refl _ _).alloc (Nat.le_refl _) _
  have rV := hp1_0 w (.cells (vrw n (.slice da dl dc) (.slice pa ps.length pc)) 27)
  obtain ⟨R, hR⟩ : ∃ R, ckT utf flE ts X deep = R := ⟨_, rfl⟩
  rw [hR]
  unfold vrw at rV hb0 ⊢
  by_cases hbad : n ≠ 0 ∨ 0 < dl
  ·have eR : R = some ⟨deep, 0, 84⟩ := by rw [← hR, eck, if_pos hbad]
   have cG := a_giveUp deep 0 84
   replace eR := hide eR
   rcases Nat.eq_zero_or_pos n with rfl | hnp
   ·have hd : decide ((dl : Int) > 0) = true := by simp; omega
    go_enter Tryz.func33, Tryz.ntmps33
    go_wp2_with (fail)
    refine (cG _).mono ?_
    rintro e_ w2 ⟨⟨g, rfl, hgl, hgr⟩, hb2⟩
    replace hb2 := Below.after hb0 hb2
    go_wp2
    rw [eR.out]
    exact ⟨rfl, ⟨g, rfl, Nat.le_trans hb0.size hgl, hgr⟩, hb2⟩
   ·have hd : ((n : Int) == 0) = false := by simp; omega
    have hd2 : ¬ (n : Int) = 0 := by omega
    go_enter Tryz.func33, Tryz.ntmps33
    go_wp2_with (fail)
    refine (cG _).mono ?_
    rintro e_ w2 ⟨⟨g, rfl, hgl, hgr⟩, hb2⟩
    replace hb2 := Below.after hb0 hb2
    go_wp2
    rw [eR.out]
    exact ⟨rfl, ⟨g, rfl, Nat.le_trans hb0.size hgl, hgr⟩, hb2⟩
  ·obtain rfl : n = 0 := by omega
   obtain rfl : dl = 0 := by omega
   by_cases hln : ps.length = ts.length
   ·have eR : R = chT utf flE (ts.drop 0) (ps.drop 0) deep := by rw [← hR, eck, if_neg (by omega), if_neg (by omega)]; rfl
    have hle3 := hide hln
    rw [hln] at rV hb0 ⊢
    clear hR hbad
    rw [hln] at hpc
    clear hln
    replace eR := hide eR
    go_enter Tryz.func33, Tryz.ntmps33
    go_wp2_with (fail)
    generalize w.alloc (.cells #[.int .u64 ((0 : Nat) : Int), .slice da 0 dc, .slice pa ts.length pc] 27) = w0 at *
    go_loopw [29, 6, 7] (fun i _ _ wr => ∃ k : Nat, k ≤ ts.length ∧ i = .int .i64 k ∧ R = chT utf flE (ts.drop k) (ps.drop k) deep ∧ Below w.heap.size w wr ∧ wr.heap[w.heap.size]? = some (.cells #[.int .u64 ((0 : Nat) : Int), .slice da 0 dc, .slice pa ts.length pc] 27 (0, 0))) (fun i _ _ _ => ts.length - (intOf i).toNat)
    case atStart => exact ⟨0, by omega, rfl, eR.out, hb0, rV⟩
    case round =>
     clear rV hb0 eR
     obtain ⟨k, hk, rfl, eR, hb, rV⟩ := hrel
     have hww := Below.after hw hb
     by_cases hlt : k < ts.length
     ·have hd : decide ((k : Int) < (ts.length : Int)) = true := by simp; omega
      have hlx := hle3.out
      obtain ⟨b, rfl, hbl, _, hra, hSl⟩ := h k hlt
      obtain ⟨pb, poff, rfl, hpb, hpra⟩ := hpr k (by omega)
      obtain ⟨wt, k1, k2, k3, a1, a2, a3, hrow, hent, hcall⟩ := hsl k hlt hSl
      rw [hrow] at hra
      have hrw := rangeS_keep2 hra hww hbl
      have hpw := rangeS_keep2 hpra hb hpb
      rw [chT_drop utf flE hlt (by omega)] at eR
      have hht := htT_sub ts k hlt
      have cC := fun V hV (hz : VtM V S (gx xs k) (gvt ps k)) => hcall S _ _ deep V hz hV hd1 (by omega)
      have hvz := hvt k (by omega)
      have hlb := lt_of_row rV
      have hba : Below wr.heap.size wr (wr.alloc (.cells #[.int .i64 0, .int .i64 0, .nilFunc, .nilFunc, .nilFunc] 114)) := (Below.refl _ _).alloc (Nat.le_refl _) _
      have rS := hp1_0 wr (.cells #[.int .i64 0, .int .i64 0, .nilFunc, .nilFunc, .nilFunc] 114)
      have hbb := below_setRow (g := wr.heap.size) hba (Nat.le_refl _) (rdv (gs ts k).no wt k1 k2 k3 a1 a2 a3)
      have rS2 := setRow_heap _ wr.heap.size _ (rdv (gs ts k).no wt k1 k2 k3 a1 a2 a3) _ _ rS
      replace rV := keep hbb rV
      replace hpw := rangeS_keep2 hpw hbb (Nat.lt_of_lt_of_le hpb hb.size)
      have hpb2 := Nat.lt_of_lt_of_le hpb hb.size
      replace hb := Below.after hb hbb
      replace hww := Below.after hww hbb
      generalize (gs ts k).no = no at *
      obtain ⟨F, hF⟩ : ∃ F, slT utf flE (gs ts k) (gvt ps k) deep = F := ⟨_, rfl⟩
      rw [hF] at eR cC
      generalize gvt ps k = Z at *
      generalize gx xs k = x at *
      obtain ⟨xn, xda, xdl, xdc, xpa, xpl, xpc⟩ := x
      replace hvz := hide hvz
      have eR2 := hide eR
      have A1 := hide rV
      have A2 := hide hpw
      have A3 := hide hb
      have A4 := hide hww
      have A5 := hide rS2
      have A6 := hide cC
      have hone : (rdv no wt k1 k2 k3 a1 a2 a3).all (·.oneCell') = true := by simp [rdv, Value.oneCell']
      clear eR rV hpw hb hww rS2 cC hF hcall hSl hrow hra hpra h hpr hvt hsl hba hbb eck hht
      unfold rdv vrv vrw at *
      go_wp2_with (first | (refine wpList_load_mid rfl 114 _ rfl b (k * 5) rfl _ _ hrw Tryz.underlying114 rfl infoSt' ?_) | (refine wpList_store_row rfl 114 _ _ rfl wr.heap.size #[.int .i64 no, .int .i64 wt, .func (.func k1) #[] a1, .func (.func k2) #[] a2, .func (.func k3) #[] a3] rfl rfl 114 _ rS infoSt' rfl hone ?_) | fail)
      have hS0 : (fun W : World => W.heap[wr.heap.size]? = some (.cells #[.int .i64 no, .int .i64 wt, .func (.func k1) #[] a1, .func (.func k2) #[] a2, .func (.func k3) #[] a3] 114 (0, 0)) ∧ W.heap[w.heap.size]? = some (.cells #[.int .u64 ((0 : Nat) : Int), .slice da 0 dc, .slice (some ⟨pb, poff, none⟩) ts.length pc] 27 (0, 0)) ∧ W.rangeAt pb (poff + k * 3) [.int .u64 (xn : Int), .slice xda xdl xdc, .slice xpa xpl xpc]) _ := ⟨A5.out, A1.out, A2.out⟩
      refine wp_region_held (S := fun W : World => W.heap[wr.heap.size]? = some (.cells #[.int .i64 no, .int .i64 wt, .func (.func k1) #[] a1, .func (.func k2) #[] a2, .func (.func k3) #[] a3] 114 (0, 0)) ∧ W.heap[w.heap.size]? = some (.cells #[.int .u64 ((0 : Nat) : Int), .slice da 0 dc, .slice (some ⟨pb, poff, none⟩) ts.length pc] 27 (0, 0)) ∧ W.rangeAt pb (poff + k * 3) [.int .u64 (xn : Int), .slice xda xdl xdc, .slice xpa xpl xpc]) (by kernel_rfl) ?_
      change wpAnyH _ _ _ _ _ _ _ _ (World.drew _)
      generalize (wr.alloc (.cells #[.int .i64 0, .int .i64 0, .nilFunc, .nilFunc, .nilFunc] 114)).setRow wr.heap.size #[.int .i64 no, .int .i64 wt, .func (.func k1) #[] a1, .func (.func k2) #[] a2, .func (.func k3) #[] a3] = w2 at *
      have hbd : Below w2.heap.size w2 w2.drew := below_drN (Below.refl _ _) 1
      replace hS0 : (fun W : World => W.heap[wr.heap.size]? = some (.cells #[.int .i64 no, .int .i64 wt, .func (.func k1) #[] a1, .func (.func k2) #[] a2, .func (.func k3) #[] a3] 114 (0, 0)) ∧ W.heap[w.heap.size]? = some (.cells #[.int .u64 ((0 : Nat) : Int), .slice da 0 dc, .slice (some ⟨pb, poff, none⟩) ts.length pc] 27 (0, 0)) ∧ W.rangeAt pb (poff + k * 3) [.int .u64 (xn : Int), .slice xda xdl xdc, .slice xpa xpl xpc]) w2.drew := hS0
      have hb := Below.after A3.out hbd
      have hww := Below.after A4.out hbd
      clear A1 A2 A3 A4 A5 hbd
      generalize w2.drew = w3 at *
      refine wpAnyH_take (i := 0) (v := ?v1) rfl (by kernel_rfl) (by kernel_rfl) (by kernel_rfl) (fun _ _ _ h => h) (Or.inl ⟨by rfl, ?y1⟩) hS0 ?r1
      case y1 =>
       intro w_ hS_
       go_simp
       try with_reducible rfl
      simp only [Act.put, List.getElem_toArray, List.getElem_cons_zero, List.setIfInBounds_toArray, List.set_cons_succ, List.set_cons_zero]
      refine wpAnyH_take (i := 1) (v := .func (.func k1) #[] a1) rfl (by kernel_rfl) (by kernel_rfl) (by kernel_rfl) (fun _ _ _ h => h) (Or.inl ⟨by rfl, ?y2⟩) hS0 ?r2
      case y2 =>
       intro w_ hS_
       have c_ := cell_of_row _ _ 2 _ _ _ hS_.1
       go_simp
       try with_reducible rfl
      simp only [Act.put, List.getElem_toArray, List.getElem_cons_succ, List.getElem_cons_zero, List.setIfInBounds_toArray, List.set_cons_succ, List.set_cons_zero]
      refine wpAnyH_take (i := 2) (v := ?v3) rfl (by kernel_rfl) (by kernel_rfl) (by kernel_rfl) (fun _ _ _ h => h) (Or.inl ⟨by rfl, ?y3⟩) hS0 ?r3
      case y3 =>
       intro w_ hS_
       go_simp
       try with_reducible rfl
      simp only [Act.put, List.getElem_toArray, List.getElem_cons_succ, List.getElem_cons_zero, List.setIfInBounds_toArray, List.set_cons_succ, List.set_cons_zero]
      refine wpAnyH_take (i := 3) (v := .slice (some ⟨pb, poff, none⟩) ts.length pc) rfl (by kernel_rfl) (by kernel_rfl) (by kernel_rfl) (fun _ _ _ h => h) (Or.inl ⟨by rfl, ?y4⟩) hS0 ?r4
      case y4 =>
       intro w_ hS_
       have c_ := cell_of_row _ _ 2 _ _ _ hS_.2.1
       go_simp
       try with_reducible rfl
      simp only [Act.put, List.getElem_toArray, List.getElem_cons_succ, List.getElem_cons_zero, List.setIfInBounds_toArray, List.set_cons_succ, List.set_cons_zero]
      refine wpAnyH_take (i := 4) (v := ?v5) rfl (by kernel_rfl) (by kernel_rfl) (by kernel_rfl) (fun _ _ _ h => h) (Or.inl ⟨by rfl, ?y5⟩) hS0 ?r5
      case y5 =>
       intro w_ hS_
       go_simp
       try with_reducible rfl
      simp only [Act.put, List.getElem_toArray, List.getElem_cons_succ, List.getElem_cons_zero, List.setIfInBounds_toArray, List.set_cons_succ, List.set_cons_zero]
      refine wpAnyH_take (i := 5) (v := ?v6) rfl (by kernel_rfl) (by kernel_rfl) (by kernel_rfl) (fun _ _ _ h => h) (Or.inl ⟨by rfl, ?y6⟩) hS0 ?r6
      case y6 =>
       intro w_ hS_
       go_simp
       try with_reducible rfl
      simp only [Act.put, List.getElem_toArray, List.getElem_cons_succ, List.getElem_cons_zero, List.setIfInBounds_toArray, List.set_cons_succ, List.set_cons_zero]
      refine wpAnyH_take (i := 6) (v := .agg #[.int .u64 (xn : Int), .slice xda xdl xdc, .slice xpa xpl xpc]) rfl (by kernel_rfl) (by kernel_rfl) (by kernel_rfl) (fun _ _ _ h => h) (yieldsIf_load_mid (by rfl) 27 _ rfl pb (poff + k * 3) rfl [.int .u64 (xn : Int), .slice xda xdl xdc, .slice xpa xpl xpc] _ (fun _ h => h.2.2) Tryz.underlying27 rfl infoV) hS0 ?_
      simp only [Act.put, List.getElem_toArray, List.getElem_cons_succ, List.getElem_cons_zero, List.setIfInBounds_toArray, List.set_cons_succ, List.set_cons_zero]
      refine wpAnyH_take (i := 7) (v := ?v7) rfl (by kernel_rfl) (by kernel_rfl) (by kernel_rfl) (fun _ _ _ h => h) (Or.inl ⟨by rfl, ?y7⟩) hS0 ?r7
      case y7 =>
       intro w_ hS_
       go_simp
       try with_reducible rfl
      simp only [Act.put, List.getElem_toArray, List.getElem_cons_succ, List.getElem_cons_zero, List.setIfInBounds_toArray, List.set_cons_succ, List.set_cons_zero]
      refine wpAnyH_one (k := 8) (fuel := 0) (by kernel_rfl) rfl (by kernel_rfl) (fun K_ hK => ?_)
      have c := A6.out w3 hww (hvz.out.blw hb)
      clear A6
      refine wp_call_up (base := w3.heap.size) (F := F) (R := fun v => v = .tuple #[]) (B := fun w' => Below w3.heap.size w3 w') ?hx c ?_ ?_
      case hx => exact run_call_val (.tmp 35) #[.tmp 40, .tmp 41] #[27, 3] rfl rfl _ (by simp only [List.map_toArray, List.map_cons, List.map_nil]; rfl) hent
      ·intro hF v_ w4 hv hb4
       subst hv
       subst hF
       have hl1 := lt_of_row hS0.1
       have hl2 := lt_of_row hS0.2.1
       refine hK _ _ ⟨keep hb4 hS0.1, keep hb4 hS0.2.1, rangeS_keep2 hS0.2.2 hb4 (Nat.lt_of_lt_of_le hpb2 (by omega))⟩ ?_
       simp only [Act.put, List.getElem_toArray, List.getElem_cons_succ, List.getElem_cons_zero, List.setIfInBounds_toArray, List.set_cons_succ, List.set_cons_zero]
       clear hK c
       replace hb := Below.after hb hb4
       have rV2 := keep hb4 hS0.2.1
       have B1 := hide hb
       have B2 := hide rV2
       clear hb rV2 hS0 hb4 hww
       refine wpAnyH_done (by kernel_rfl) ?_ _
       go_wp2_with (fail)
       refine ⟨⟨_, _, _, ⟨k + 1, by omega, by go_num, eR2.out, B1.out, B2.out⟩, rfl, rfl, rfl⟩, ?_⟩
       simp [intOf]; omega
      ·intro x hF g w4 h1 h2 hb4
       subst hF
       have hsz := hb.size
       replace hb := Below.after hb hb4
       go_wp2_with (fail)
       rw [eR2.out]
       exact ⟨rfl, ⟨g, rfl, by omega, h2⟩, hb⟩
     ·have hd : decide ((k : Int) < (ts.length : Int)) = false := by simp; omega
      obtain rfl : k = ts.length := by omega
      rw [List.drop_length, chT_nil] at eR
      replace eR := hide eR
      clear h hpr hvt hsl eck
      go_wp2_with (fail)
      go_end0
      rw [eR.out]
      exact ⟨⟨_, rfl, rfl⟩, hb⟩
   ·have eR : R = some ⟨deep, 0, 81⟩ := by rw [← hR, eck, if_neg (by omega), if_pos hln]
    have cG := a_giveUp deep 0 81
    have hle : ((ps.length : Int) == (ts.length : Int)) = false := by simp; omega
    have hle2 : ¬ (ps.length : Int) = (ts.length : Int) := by omega
    replace eR := hide eR
    go_enter Tryz.func33, Tryz.ntmps33
    go_wp2_with (fail)
    refine (cG _).mono ?_
    rintro e_ w2 ⟨⟨g, rfl, hgl, hgr⟩, hb2⟩
    replace hb2 := Below.after hb0 hb2
    go_wp2
    rw [eR.out]
    exact ⟨rfl, ⟨g, rfl, Nat.le_trans hb0.size hgl, hgr⟩, hb2⟩
end Go.Proofs.YtmmlkfkpblokiaaGreatDoor

