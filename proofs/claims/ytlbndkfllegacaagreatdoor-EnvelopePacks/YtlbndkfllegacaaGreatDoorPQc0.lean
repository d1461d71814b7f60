import Derived.Test.YtlbndkfllegacaaGreatDoorProg
import Derived.WalkKit
import Derived.WalkSpells
import Derived.WalkLawsBesides
import Derived.Lib.QuietBelow
import Derived.Laws.BitsAllLaws
import Derived.BigQuiet
import Derived.WalkMore
import Derived.Test.YtlbndkfllegacaaGreatDoorPOpen
import Derived.Maps.AppendAt
import Derived.RangeFuncBox
import Derived.Test.YtlbndkfllegacaaGreatDoorPAsf
import Derived.OrdersHeld
import Derived.Deep.RegionHeld3
import Derived.Test.YtlbndkfllegacaaGreatDoorPQa1
import Derived.ProofKit
import Derived.OpenShut
import Derived.ChangeSlices
import Derived.ChangeArms
import Derived.SizedLaws
import Derived.Test.YtlbndkfllegacaaGreatDoorPQa6
import Derived.Deep.Slices
import Derived.Test.YtlbndkfllegacaaGreatDoorPQb3
import Derived.Test.YtlbndkfllegacaaGreatDoorPQb0
import Derived.OwnWalk
import Derived.Deep.Cut
import Derived.Test.YtlbndkfllegacaaGreatDoorPEvp
import Derived.Test.YtlbndkfllegacaaGreatDoorPQd0
namespace Go.Proofs.YtlbndkfllegacaaGreatDoor
set_option maxRecDepth 100000
open Go Go.RowKit Go.Sort
attribute [local go_sem] setCell_drewN alloc_drewN
open Go.Shelf
attribute [local go_sem] Oper.semAt_some
def dwh (d : List B) : List (Nat × Fd) × Option (Nat × Int) := if 4194304 < d.length then ([], some (0, 2)) else whl d d.length 0 0 0
def dfs (x : List (Nat × Fd) × Option (Nat × Int)) : List Fd := match x.2 with
 | none => x.1.map (·.2)
 | some _ => []
def dpl (x : List (Nat × Fd) × Option (Nat × Int)) : Int := match x.2 with
 | none => 0
 | some (p, _) => (p : Int)
def der (x : List (Nat × Fd) × Option (Nat × Int)) : Int := match x.2 with
 | none => 0
 | some (_, e) => e
def DecJ (w : World) (v : Value) (r : Loop) (pre : List (Nat × Fd)) (A : World) : Prop :=
 A.heap[w.heap.size + 3]? = some (.loop r) ∧ A.heap[w.heap.size + 2]? = some (.deferred (some [])) ∧ A.heap[w.heap.size + 1]? = some (.cells (wkr v) 106 (0, 0)) ∧
 (∃ u us, A.heap[w.heap.size]? = some (.cells #[u] 65 (0, 0)) ∧ Fts A (w.heap.size + 4) u us (pre.map (·.2))) ∧ Below w.heap.size w A
theorem DecJ.keep {w A C : World} {v : Value} {r : Loop} {pre : List (Nat × Fd)} (h : DecJ w v r pre A) (hb : Below A.heap.size A C) : DecJ w v r pre C := by
 obtain ⟨h1, h2, h3, ⟨u, us, h4, h5⟩, h6⟩ := h
 exact ⟨Go.Proofs.YtlbndkfllegacaaGreatDoor.keep hb h1, Go.Proofs.YtlbndkfllegacaaGreatDoor.keep hb h2, Go.Proofs.YtlbndkfllegacaaGreatDoor.keep hb h3, ⟨u, us, Go.Proofs.YtlbndkfllegacaaGreatDoor.keep hb h4, h5.keep hb⟩, Below.after h6 hb⟩
end Go.Proofs.YtlbndkfllegacaaGreatDoor
namespace Go.Proofs.YtlbndkfllegacaaGreatDoor
set_option maxRecDepth 100000
open Go Go.RowKit Go.Sort
attribute [local go_sem] setCell_drewN alloc_drewN
end Go.Proofs.YtlbndkfllegacaaGreatDoor
namespace Go.Proofs.YtlbndkfllegacaaGreatDoor
set_option maxRecDepth 100000
open Go Go.RowKit Go.Sort
/-! What is read is the one form of what it comes to; what is written is read back. -/
end Go.Proofs.YtlbndkfllegacaaGreatDoor
namespace Go.Proofs.YtlbndkfllegacaaGreatDoor
set_option maxRecDepth 100000
open Go Go.RowKit Go.Sort
attribute [local go_sem] setCell_drewN alloc_drewN
end Go.Proofs.YtlbndkfllegacaaGreatDoor
namespace Go.Proofs.YtlbndkfllegacaaGreatDoor
set_option maxRecDepth 100000
open Go Go.RowKit Go.Sort
/-! What Encode writes, Decode reads back. -/
theorem rh_of {f : Fd} {last : Int} {c : Nat} (r : List B) (h : hck f last = 0) (h0 : 0 ≤ last) (hc : c ≠ 64) : rh (en (fhd f) ++ r) last c = .ok f.no f.ty (en (fhd f)).length := by
 obtain ⟨no, ty, num, dat⟩ := f
 unfold hck at h
 simp only at h
 by_cases h1 : no ≤ last ∨ 536870911 < no
 · rw [if_pos h1] at h; cases h
 rw [if_neg h1] at h
 by_cases h2 : known ty
 · have ht := known_lt h2
   have hv : fhd ⟨no, ty, num, dat⟩ = 8 * no.toNat + ty.toNat := rfl
   have hlt : fhd ⟨no, ty, num, dat⟩ < 18446744073709551616 := by rw [hv]; omega
   unfold rh
   rw [rd0_en hlt r]
   simp only
   rw [if_neg hc, if_neg (by rw [hv]; omega)]
   have e1 : ((fhd ⟨no, ty, num, dat⟩ : Nat) : Int) / 8 = no := by rw [hv]; omega
   have e2 : ((fhd ⟨no, ty, num, dat⟩ : Nat) : Int) % 8 = ty := by rw [hv]; omega
   rw [e1, e2, if_neg]
   simp only [hck, ne_eq, Decidable.not_not]
   rw [if_neg h1, if_pos h2]
 · rw [if_neg h2] at h; cases h
theorem ri_itm2 (p r : List B) (h : p.length < 18446744073709551616) : ri (itm p ++ r) = .ok p (itm p).length := by
 unfold ri itm
 rw [List.append_assoc, rd0_en h (p ++ r)]
 simp only
 rw [if_neg (by simp only [List.length_append]; omega), List.drop_left, List.take_left, List.length_append]
theorem rv_of {f : Fd} (r : List B) (hk : known f.ty) (hf : fits f) (ho : Fok f) : rv (fvl f ++ r) f.ty = .ok f.num f.dat (fvl f).length := by
 obtain ⟨no, ty, num, dat⟩ := f
 obtain ⟨o1, o2, _⟩ := ho
 simp only at hk o1 o2 ⊢
 unfold fits at hf
 simp only at hf
 rcases hk with rfl | rfl | rfl | rfl
 · rw [if_neg (by decide)] at hf
   obtain ⟨rfl, _⟩ := hf
   show rv (en num ++ r) 0 = .ok num [] (en num).length
   unfold rv
   rw [if_neg (by decide), if_neg (by decide), if_neg (by decide), rd0_en o1 r]
 · rw [if_neg (by decide)] at hf
   obtain ⟨rfl, _⟩ := hf
   show rv (fx 8 num ++ r) 1 = .ok num [] (fx 8 num).length
   unfold rv
   have hl := fx_len 8 num
   rw [if_pos rfl, if_neg (by rw [List.length_append, hl]; omega), List.take_append_of_le_length (by omega), List.take_of_length_le (by omega), fxv_fx, hl]
   congr 1
   exact Nat.mod_eq_of_lt (by simpa using o1)
 · rw [if_pos rfl] at hf
   subst hf
   show rv (itm dat ++ r) 2 = .ok 0 dat (itm dat).length
   unfold rv
   rw [if_neg (by decide), if_neg (by decide), if_pos rfl, ri_itm2 dat r (by omega)]
 · rw [if_neg (by decide)] at hf
   obtain ⟨rfl, h5⟩ := hf
   show rv (fx 4 num ++ r) 5 = .ok num [] (fx 4 num).length
   unfold rv
   have hl := fx_len 4 num
   rw [if_neg (by decide), if_pos rfl, if_neg (by rw [List.length_append, hl]; omega), List.take_append_of_le_length (by omega), List.take_of_length_le (by omega), fxv_fx, hl]
   congr 1
   have := h5 rfl
   exact Nat.mod_eq_of_lt (by simp; omega)
theorem whl_ebs {d : List B} : ∀ (fs : List Fd) (pre : List B) (last : Int) (c k : Nat), d = pre ++ ebs fs → ech fs last = 0 → c + fs.length ≤ 64 → 0 ≤ last → (∀ f ∈ fs, Fok f) → d.length - pre.length ≤ k →
   (whl d k pre.length last c).2 = none ∧ (whl d k pre.length last c).1.map (·.2) = fs
 | [], pre, last, c, k, hd, _, _, _, _, _ => by
   have hl : ¬ pre.length < d.length := by rw [hd, ebs, List.append_nil]; omega
   rw [whl_end hl]
   exact ⟨rfl, rfl⟩
 | f :: fs, pre, last, c, k, hd, he, hc, h0, hok, hk => by
   rw [List.length_cons] at hc
   rw [ech] at he
   by_cases hf : fck f last = 0
   · rw [if_neg (by rw [hf]; simp)] at he
     obtain ⟨f1, f2, f3, f4⟩ := fck_ok hf
     have hh : hck f last = 0 := by
       unfold fck at hf
       by_cases q : hck f last = 0
       · exact q
       · rw [if_pos q] at hf; exact hf
     have hp := en_pos (fhd f)
     have hd2 : d = (pre ++ fby f) ++ ebs fs := by rw [hd, ebs, List.append_assoc]
     have hlt : pre.length < d.length := by
       rw [hd2, fby]
       simp only [List.length_append]
       omega
     have hr : rh (d.drop pre.length) last c = .ok f.no f.ty (en (fhd f)).length := by
       rw [hd, List.drop_left, ebs, fby, List.append_assoc]
       exact rh_of _ hh h0 (by omega)
     have hv : rv (d.drop (pre.length + (en (fhd f)).length)) f.ty = .ok f.num f.dat (fvl f).length := by
       rw [hd, ← List.drop_drop, List.drop_left, ebs, fby, List.append_assoc, List.drop_left]
       exact rv_of _ f3 f4 (hok f (List.mem_cons_self ..))
     obtain ⟨j, hj, hst⟩ := whl_step hlt hk hr hv
     have hpl : pre.length + (en (fhd f)).length + (fvl f).length = (pre ++ fby f).length := by rw [fby]; simp only [List.length_append]; omega
     rw [hpl] at hst hj
     obtain ⟨i1, i2⟩ := whl_ebs fs (pre ++ fby f) f.no (c + 1) j hd2 he (by omega) (by omega) (fun g hg => hok g (List.mem_cons_of_mem _ hg)) hj
     rw [hst]
     exact ⟨i1, by rw [List.map_cons, i2]⟩
   · rw [if_pos hf] at he
     exact absurd he hf
theorem enc_dec {fs : List Fd} (h : eer fs = 0) (hok : ∀ f ∈ fs, Fok f) : der (dwh (ebs fs)) = 0 ∧ dpl (dwh (ebs fs)) = 0 ∧ dfs (dwh (ebs fs)) = fs := by
 unfold eer at h
 by_cases h1 : 64 < fs.length
 · rw [if_pos h1] at h; cases h
 rw [if_neg h1] at h
 by_cases h2 : ech fs 0 = 0
 · rw [if_neg (by rw [h2]; simp)] at h
   by_cases h3 : 4194304 < (ebs fs).length
   · rw [if_pos h3] at h; cases h
   have hd : dwh (ebs fs) = whl (ebs fs) (ebs fs).length 0 0 0 := if_neg h3
   obtain ⟨i1, i2⟩ := whl_ebs (d := ebs fs) fs [] 0 0 (ebs fs).length rfl h2 (by omega) (by omega) hok (by omega)
   simp only [List.length_nil] at i1 i2
   rw [hd]
   simp [der, dpl, dfs, i1, i2]
 · rw [if_pos h2] at h
   exact absurd h h2
end Go.Proofs.YtlbndkfllegacaaGreatDoor
namespace Go.Proofs.YtlbndkfllegacaaGreatDoor
set_option maxRecDepth 100000
open Go Go.ChangeShapes Go.WideShapes Go.ChangeAt Go.RowKit
theorem cU86 : Tryz.prog.cellsOf 5 = 1 := by kernel_rfl
theorem bU86 : Tryz.prog.bytesOf 5 = 1 := by kernel_rfl
theorem block_lt6 {w : World} {b o : Nat} {v : Value} (h : w.cell? ⟨b, o, none⟩ = some v) : b < w.heap.size := by
 rcases Nat.lt_or_ge b w.heap.size with q | q
 · exact q
 · simp [World.cell?, Array.getElem?_eq_none q] at h
def BysC (W : World) (v : Value) (d : List B) : Prop := BysB W v d ∧ d.length ≤ 140737488351232 ∧ ∀ a l c, v = .slice a l c → l ≤ c
theorem bysC_of_trod {H : Type} {enc : TypeId × Value → H} {W : World} {m : Nat} {cs : List Value} {x : DataW H × List MemPlace} (hf : DataW.trod enc Tryz.prog W 0 (fun _ => true) true m 22 cs = some x) (hs : ∀ n ∈ x.1.weights Tryz.prog 22, n ≤ reachBytes) : ∃ v d, cs = [v] ∧ BysC W v d := by
 rcases open_ints Tryz.underlying22 Tryz.underlying5 cU86 hf with ⟨hcs, hx⟩ | ⟨a, len, cap, zs, hcs, _, hl, hm, hz, hx, hcell, hwz⟩
 · exact ⟨_, [], hcs, ⟨⟨none, 0, rfl, by decide, fun j hj => by simp [bl] at hj, bl_bnd _⟩, by decide, fun a l c h _ => by cases h; rfl⟩, by simp, fun a l c h => by cases h; exact Nat.le_refl _⟩
 · subst hx
   simp only [if_true] at hz
   have hb := hs ((lits (H := H) .u8 (zs.take len)).length + (lits (H := H) .u8 (zs.drop len)).length) (by simp [DataW.weights, Tryz.underlying22, bU86])
   simp only [lits, List.length_map, List.length_take, List.length_drop, reachBytes] at hb
   have hlen : (zs.take len).length = len := by rw [List.length_take]; omega
   obtain ⟨d, hd, e⟩ := bl_of (zs.take len) (fun z h => u8_of_wf (hwz z (List.mem_of_mem_take h)))
   rw [hlen] at e
   refine ⟨_, d, hcs, ⟨⟨some a, cap, by rw [bl_len, e], by rw [bl_len]; omega, fun j hj => ?_, bl_bnd _⟩, by omega, fun a l c h h2 => by cases h; cases h2⟩, by omega, fun a l c h => by cases h; exact hl⟩
   rw [bl_len, e] at hj
   have hc := hcell j (by omega)
   obtain ⟨bb, off, spot⟩ := a
   have hspot : spot = none := by simpa [Addr.add] using World.cell?_spot (hcell 0 (by omega))
   subst hspot
   rw [addr_add] at hc
   refine ⟨bb, off, rfl, block_lt6 hc, ?_⟩
   rw [hc, ← hd, List.getD_eq_getElem?_getD, List.getD_eq_getElem?_getD, List.getElem?_take_of_lt hj]
end Go.Proofs.YtlbndkfllegacaaGreatDoor
namespace Go.Proofs.YtlbndkfllegacaaGreatDoor
set_option maxRecDepth 100000
open Go Go.ChangeShapes Go.WideShapes Go.ChangeAt Go.RowKit Go.Deep
/-! Fields out of the data. -/
end Go.Proofs.YtlbndkfllegacaaGreatDoor
namespace Go.Proofs.YtlbndkfllegacaaGreatDoor
set_option maxRecDepth 100000
open Go Go.RowKit Go.Sort
attribute [local go_sem] setCell_drewN alloc_drewN
end Go.Proofs.YtlbndkfllegacaaGreatDoor
namespace Go.Proofs.YtlbndkfllegacaaGreatDoor
set_option maxRecDepth 100000
open Go Go.RowKit Go.Sort
def ftF (t : Slt) (f : Fd) : Int := if t.kind = 5 then wth (f.dat.length : Int) (t.least : Int) (t.most : Int) else if t.kind = 4 then wth (f.num : Int) 0 1 else wth (f.num : Int) (t.least : Int) (t.most : Int)
def rdE (at_ E : Int) : Option Flt3 := if E = 0 then none else some ⟨0, at_, E⟩
def dsl (t : Slt) (f : Fd) (at_ : Int) : Option Flt3 := if f.no ≠ t.no then some ⟨0, at_, 81⟩ else if f.ty ≠ wtK t then some ⟨0, at_, 82⟩ else rdE at_ (ftF t f)
def dcF : List Slt → List Fd → Int → Option Flt3
 | [], [], _ => none
 | [], _ :: _, at_ => some ⟨0, at_, 81⟩
 | _ :: _, [], at_ => some ⟨0, at_, 81⟩
 | t :: ts, f :: fs, at_ => match dsl t f at_ with
   | some x => some x
   | none => dcF ts fs (at_ + ((fby f).length : Int))
def dec8 (ts : List Slt) (d : List B) (from_ : Int) : Option Flt3 := if der (dwh d) ≠ 0 then some ⟨0, from_ + dpl (dwh d), der (dwh d)⟩ else dcF ts (dfs (dwh d)) from_
end Go.Proofs.YtlbndkfllegacaaGreatDoor
namespace Go.Proofs.YtlbndkfllegacaaGreatDoor
set_option maxRecDepth 100000
open Go Go.RowKit Go.Sort
attribute [local go_sem] setCell_drewN alloc_drewN
end Go.Proofs.YtlbndkfllegacaaGreatDoor
namespace Go.Proofs.YtlbndkfllegacaaGreatDoor
set_option maxRecDepth 100000
open Go Go.RowKit Go.Sort
attribute [local go_sem] setCell_drewN alloc_drewN
section
variable {P : Program} {ops : Array Oper} {Q : Exit → Act → World → Prop} {md : Region.Mode} {S : World → Prop}
end
end Go.Proofs.YtlbndkfllegacaaGreatDoor
namespace Go.Proofs.YtlbndkfllegacaaGreatDoor
set_option maxRecDepth 100000
open Go Go.RowKit Go.Sort
/-! What is cut short. -/
end Go.Proofs.YtlbndkfllegacaaGreatDoor
namespace Go.Proofs.YtlbndkfllegacaaGreatDoor
set_option maxRecDepth 100000
open Go Go.RowKit Go.Sort
/-! Parts of a list of fields. -/
theorem gf_take (fs : List Fd) (k i : Nat) (h : i < k) : gf (fs.take k) i = gf fs i := by
 rw [gf, gf, List.getD_eq_getElem?_getD, List.getD_eq_getElem?_getD, List.getElem?_take_of_lt h]
theorem Fds.take {W : World} {ao : Option Addr} {cap l : Nat} {fs : List Fd} (h : Fds W (.slice ao l cap) fs) (k : Nat) (hk : k ≤ fs.length) : Fds W (.slice ao k cap) (fs.take k) := by
 obtain ⟨ao', cap', e, h1, h2, h3, h4⟩ := h
 cases e
 have hl : (fs.take k).length = k := by rw [List.length_take, Nat.min_eq_left hk]
 refine ⟨ao, cap, by rw [hl], by omega, by omega, h3, fun i hi => ?_⟩
 rw [hl] at hi
 rw [gf_take fs k i hi]
 exact h4 i (by omega)
theorem eer_ok {fs : List Fd} : eer fs = 0 ↔ fs.length ≤ 64 ∧ ech fs 0 = 0 ∧ (ebs fs).length ≤ 4194304 := by
 unfold eer
 by_cases h1 : 64 < fs.length
 · rw [if_pos h1]
   constructor
   · intro h; cases h
   · intro h; omega
 rw [if_neg h1]
 by_cases h2 : ech fs 0 = 0
 · rw [if_neg (by rw [h2]; simp)]
   by_cases h3 : 4194304 < (ebs fs).length
   · rw [if_pos h3]
     constructor
     · intro h; cases h
     · intro h; omega
   · rw [if_neg h3]
     exact ⟨fun _ => ⟨by omega, h2, by omega⟩, fun _ => rfl⟩
 · rw [if_pos h2]
   exact ⟨fun h => absurd h h2, fun h => absurd h.2.1 h2⟩
end Go.Proofs.YtlbndkfllegacaaGreatDoor
namespace Go.Proofs.YtlbndkfllegacaaGreatDoor
set_option maxRecDepth 100000
open Go Go.RowKit Go.Sort
attribute [local go_sem] setCell_drewN alloc_drewN
theorem Fts.at {W : World} {b : Nat} {v : Value} {us : List Value} {fs : List Fd} (h : Fts W b v us fs) {i : Nat} (hi : i < fs.length) : ∃ g cap, v = .slice (some ⟨g, 0, none⟩) fs.length cap ∧ b ≤ g ∧ g < W.heap.size ∧ W.rangeAt g (i * 4) (frow (gf fs i) (gv us i)) := by
 obtain ⟨h1, h2, h3, _⟩ := h
 have h1' := h1
 obtain ⟨_, ⟨rfl, h0⟩ | ⟨g, cap, cur, rfl, hb, hg, hn, hm, hs, ht⟩⟩ := h1'
 · omega
 · refine ⟨g, cap, rfl, hb, lt_of_row hg, fun j x hx => ?_⟩
   have hj : j < 4 := by have := (List.getElem?_eq_some_iff.1 hx).1; exact this
   have := h1.cells (g := g) rfl (i * 4 + j) x (by rw [frs_at fs us i j h2 hi hj]; exact hx)
   rw [addr_add, Nat.zero_add] at this
   exact this
end Go.Proofs.YtlbndkfllegacaaGreatDoor
namespace Go.Proofs.YtlbndkfllegacaaGreatDoor
set_option maxRecDepth 100000
open Go Go.RowKit Go.Sort
attribute [local go_sem] setCell_drewN alloc_drewN
theorem But.setRow {g : Nat} (w : World) (cs : Array Value) : But g w (w.setRow g cs) := ⟨rfl, rfl, rfl, by simp, fun k _ hne => setRow_other w g k cs hne⟩
end Go.Proofs.YtlbndkfllegacaaGreatDoor
namespace Go.Proofs.YtlbndkfllegacaaGreatDoor
set_option maxRecDepth 100000
open Go Go.RowKit Go.Sort
attribute [local go_sem] setCell_drewN alloc_drewN
section
variable {P : Program}
theorem run_build_op {o : Oper} {a : Act} {w : World} (t : TypeId) (parts : Array (Nat × Operand)) (ho : o.op = .build t parts) (vals : List (Nat × Value)) (hv : parts.toList.map (fun (i, x) => (i, a.eval x)) = vals) (cells : Array Value) (hb : P.built t vals = some cells) : (execOp a.eval o).run P w = .ok (.value (.agg cells)) w := by
 rw [← Array.toList_map] at hv
 subst hv
 unfold execOp
 simp only [ho, Sem.run_bind, Sem.run_pure, run_build w t _ cells hb, Result.andThen_ok]
end
end Go.Proofs.YtlbndkfllegacaaGreatDoor
namespace Go.Proofs.YtlbndkfllegacaaGreatDoor
set_option maxRecDepth 100000
open Go Go.RowKit Go.Sort
attribute [local go_sem] setCell_drewN alloc_drewN
end Go.Proofs.YtlbndkfllegacaaGreatDoor
namespace Go.Proofs.YtlbndkfllegacaaGreatDoor
set_option maxRecDepth 100000
open Go Go.RowKit Go.Sort
attribute [local go_sem] setCell_drewN alloc_drewN
def n16 : List B := List.replicate 16 0#8
theorem n16_len : n16.length = 16 := rfl
def riV (d : List B) : Nat := (gf (dfs (dwh d)) 0).num
def riE (d : List B) : Int := if der (dwh d) ≠ 0 then der (dwh d) else if (dfs (dwh d)).length = 0 ∨ (gf (dfs (dwh d)) 0).no ≠ 1 then 81 else if (gf (dfs (dwh d)) 0).ty ≠ 0 then 82 else if known10 (riV d) then 0 else 100
def riA (d : List B) : Int := if der (dwh d) ≠ 0 then dpl (dwh d) else 0
def paF (d : List B) : Option Flt3 := if riE d ≠ 0 then some ⟨0, riA d, riE d⟩ else match dec8 (esl (riV d)) d 0 with
 | some x => some x
 | none => if bkd (dg (riV d)) ((gf (dfs (dwh d)) 3).dat.length - 16) = (gf (dfs (dwh d)) 3).dat.length - 16 then none else some ⟨0, 82, 102⟩
end Go.Proofs.YtlbndkfllegacaaGreatDoor
namespace Go.Proofs.YtlbndkfllegacaaGreatDoor
set_option maxRecDepth 100000
open Go Go.RowKit Go.Sort
attribute [local go_sem] setCell_drewN alloc_drewN
set_option maxRecDepth 100000 in
set_option maxHeartbeats 4000000 in
theorem r_next1 (b : Nat) (hb : b ≤ 1152921504606846976) : Gives 101 #[.int .i64 1, .int .i64 (b : Int)] (.int .i64 (2 * (b : Int))) := by
 intro w
 go_enter Tryz.func101, Tryz.ntmps101
 go_wp2
 go_ret
 exact ⟨rfl, Below.refl _ _⟩
theorem quo_big {m i j : Nat} (h8 : 8 ≤ m) (h : i < j) : 15 < m * 2 ^ j / 2 ^ i := by
 have hp : 0 < 2 ^ i := Nat.pow_pos (by decide)
 rw [show j = (j - i) + i by omega, Nat.pow_add, ← Nat.mul_assoc, Nat.mul_div_cancel _ hp]
 have h1 : 2 ^ 1 ≤ 2 ^ (j - i) := Nat.pow_le_pow_right (by decide) (by omega)
 have := Nat.mul_le_mul h8 h1
 omega
set_option maxRecDepth 100000 in
set_option maxHeartbeats 4000000 in
theorem r_next2 (m j : Nat) (h8 : 8 ≤ m) (h15 : m ≤ 15) (hb : m * 2 ^ j ≤ 1152921504606846976) : Gives 101 #[.int .i64 2, .int .i64 ((m * 2 ^ j : Nat) : Int)] (.int .i64 ((m * 2 ^ j + 2 ^ j : Nat) : Int)) := by
 intro w
 have hp : 2 ^ j ≤ m * 2 ^ j := Nat.le_mul_of_pos_left _ (by omega)
 have quo : ∀ i, i ≤ j → (decide (((m * 2 ^ j / 2 ^ i : Nat) : Int) > 15) = decide (i < j)) := fun i hi => by
   rcases Nat.lt_or_ge i j with q | q
   · rw [decide_eq_true q, decide_eq_true]
     have := quo_big h8 q
     omega
   · obtain rfl : i = j := by omega
     rw [decide_eq_false (Nat.lt_irrefl i), decide_eq_false]
     rw [Nat.mul_div_cancel _ (Nat.pow_pos (by decide))]
     omega
 have pos : ∀ i : Nat, 0 < 2 ^ i := fun i => Nat.pow_pos (by decide)
 have dbl : ∀ i, i < j → 2 * 2 ^ i ≤ 2 ^ j := fun i hi => by
   rw [← Nat.pow_succ']
   exact Nat.pow_le_pow_right (by decide) (by omega)
 generalize hB : m * 2 ^ j = b at *
 go_enter Tryz.func101, Tryz.ntmps101
 go_wp2
 go_loopw [5] (fun u wr => ∃ i k : Nat, i ≤ j ∧ k = 2 ^ i ∧ u = .int .i64 (k : Int) ∧ wr = w) (fun u _ => 2 ^ j - (intOf u).toNat)
 case atStart => exact ⟨0, 1, by omega, rfl, rfl, rfl⟩
 case round =>
   obtain ⟨i, k, hi, hk, rfl, rfl⟩ := hrel
   have q1 := quo i hi
   have q2 := pos i
   have q3 := dbl i
   rw [← hk] at q1 q2 q3
   have hk' := hide hk
   have hz : ¬ (k : Int) = 0 := by omega
   have hdv : ((b : Int)).tdiv (k : Int) = ((b / k : Nat) : Int) := by
     rw [Int.tdiv_eq_ediv_of_nonneg (by omega), Int.natCast_ediv]
   have hdl : b / k ≤ b := Nat.div_le_self _ _
   generalize b / k = q at *
   rcases Nat.lt_or_ge i j with c | c
   · rw [decide_eq_true c] at q1
     replace q3 := q3 c
     clear quo pos dbl hB hk
     generalize 2 ^ j = x at *
     go_wp2
     refine ⟨⟨i + 1, 2 * k, by omega, by rw [Nat.pow_succ', hk'.out], by go_num, trivial⟩, ?_⟩
     simp [intOf]; omega
   · obtain rfl : i = j := by omega
     rw [decide_eq_false (Nat.lt_irrefl i)] at q1
     clear quo pos dbl hB q3
     rw [← hk]
     rw [← hk] at hp
     clear hk
     go_wp2
     go_ret
     have e2 : 2 ^ i = k := hk'.out.symm
     rw [e2, Int.natCast_add]
     exact ⟨rfl, Below.refl _ _⟩
theorem r_next10 (v lo : Nat) (hv : v = 1 ∧ lo = 1 ∨ v = 2 ∧ lo = 8) (b : Nat) (hB : Bkt lo b) (hb : b ≤ 1152921504606846976) : ∃ c : Nat, Gives 101 #[.int .i64 (v : Int), .int .i64 (b : Int)] (.int .i64 (c : Int)) ∧ Bkt lo c ∧ b < c ∧ ∀ x, Bkt lo x → b < x → c ≤ x := by
 obtain ⟨h64, m, j, rfl, m1, m2⟩ := hB
 have hp : 0 < 2 ^ j := Nat.pow_pos (by decide)
 rcases hv with ⟨rfl, rfl⟩ | ⟨rfl, rfl⟩
 · obtain rfl : m = 1 := by omega
   refine ⟨1 * 2 ^ j + 2 ^ j, ?_, bkt_up (by decide) h64 m1 m2, by omega, fun x hx hl => bkt_next m1 hx hl⟩
   have := r_next1 (1 * 2 ^ j) hb
   rw [show (2 : Int) * ((1 * 2 ^ j : Nat) : Int) = ((1 * 2 ^ j + 2 ^ j : Nat) : Int) by omega] at this
   exact this
 · exact ⟨m * 2 ^ j + 2 ^ j, r_next2 m j m1 (by omega) hb, bkt_up (by decide) h64 m1 m2, by omega, fun x hx hl => bkt_next m1 hx hl⟩
theorem bkt_64 (lo : Nat) (h : lo = 1 ∨ lo = 8) : Bkt lo 64 := by
 rcases h with rfl | rfl
 · exact ⟨by decide, 1, 6, by decide, by decide, by decide⟩
 · exact ⟨by decide, 8, 3, by decide, by decide, by decide⟩
set_option maxRecDepth 100000 in
set_option maxHeartbeats 4000000 in
theorem r_least (v : Nat) (hv : v = 1 ∨ v = 2) (n : Nat) (hn : n ≤ 1152921504606846000) : Gives 72 #[.int .i64 (v : Int), .int .i64 (n : Int)] (.int .i64 (bkd (dg v) n : Int)) := by
 intro w
 obtain ⟨lo, hl, hlo⟩ : ∃ lo, (v = 1 ∧ lo = 1 ∨ v = 2 ∧ lo = 8) ∧ lo = 2 ^ (dg v - 1) := by
   rcases hv with rfl | rfl
   · exact ⟨1, .inl ⟨rfl, rfl⟩, rfl⟩
   · exact ⟨8, .inr ⟨rfl, rfl⟩, rfl⟩
 have hL := bkd_lst (dg v) n (dg_pos v) (dg_le v)
 rw [← hlo] at hL
 have h0 := bkt_64 lo (by omega)
 generalize bkd (dg v) n = z at *
 clear hlo
 go_enter Tryz.func72, Tryz.ntmps72
 go_wp2
 go_loopw [5] (fun u wr => ∃ b : Nat, Bkt lo b ∧ b ≤ z ∧ u = .int .i64 (b : Int) ∧ Below w.heap.size w wr) (fun u _ => n - (intOf u).toNat)
 case atStart => exact ⟨64, h0, hL.1.1, rfl, Below.refl _ _⟩
 case round =>
   obtain ⟨b, hb, hz, rfl, hw⟩ := hrel
   by_cases q : b < n
   · have hd : decide ((b : Int) < (n : Int)) = true := by simp; omega
     obtain ⟨c, c1, c2, c3, c4⟩ := r_next10 v lo hl b hb (by omega)
     have hcz : c ≤ z := c4 z hL.1 (by have := hL.2.1; omega)
     have hh := hide c2
     clear c4 hL h0 hb c2 hv hl
     go_wp2_with (fail)
     refine (c1.at _).mono ?_
     rintro e_ w1 ⟨rfl, hb1⟩
     replace hw := Below.after hw hb1
     clear c1 hb1
     go_wp2
     refine ⟨⟨c, hh.out, hcz, rfl, hw⟩, ?_⟩
     simp [intOf]; omega
   · have hd : decide ((b : Int) < (n : Int)) = false := by simp; omega
     have e : b = z := by have := hL.2.2 b hb (by omega); omega
     clear hL h0 hb hl hz
     subst e
     go_wp2
     go_ret
     exact ⟨rfl, hw⟩
end Go.Proofs.YtlbndkfllegacaaGreatDoor
namespace Go.Proofs.YtlbndkfllegacaaGreatDoor
set_option maxRecDepth 100000
open Go Go.RowKit Go.Sort
attribute [local go_sem] setCell_drewN alloc_drewN
theorem r_known10 (ver : Int) : Gives 44 #[.int .i64 ver] (.bool (ver == 1 || ver == 2)) := by
 intro w
 go_enter Tryz.func44, Tryz.ntmps44
 rcases h1 : (ver == 1)
 · rcases h2 : (ver == 2)
   all_goals
     go_wp2
     go_ret
     exact ⟨rfl, Below.refl _ _⟩
 · go_wp2
   go_ret
   exact ⟨rfl, Below.refl _ _⟩
theorem ver_known (ver : Int) (v : Nat) (hv : IntKind.wrap .u64 ver = (v : Int)) (h1 : -9223372036854775808 ≤ ver) (h2 : ver ≤ 9223372036854775807) : (ver == 1 || ver == 2) = known10 v ∧ (known10 v = true → ver = (v : Int) ∧ (v = 1 ∨ v = 2)) := by
 have e : IntKind.wrap .u64 ver = ver % 18446744073709551616 := rfl
 rw [e] at hv
 unfold known10
 rcases Int.decEq ver 1 with q1 | rfl
 · rcases Int.decEq ver 2 with q2 | rfl
   · have c1 : ¬ v = 1 := by omega
     have c2 : ¬ v = 2 := by omega
     have d1 : (ver == 1) = false := by simpa using q1
     have d2 : (ver == 2) = false := by simpa using q2
     have d3 : (v == 1) = false := by simpa using c1
     have d4 : (v == 2) = false := by simpa using c2
     rw [d1, d2, d3, d4]
     simp
   · obtain rfl : v = 2 := by omega
     simp
 · obtain rfl : v = 1 := by omega
   simp
end Go.Proofs.YtlbndkfllegacaaGreatDoor

