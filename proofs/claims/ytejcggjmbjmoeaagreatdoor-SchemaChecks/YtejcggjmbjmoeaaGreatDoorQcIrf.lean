import Derived.Test.YtejcggjmbjmoeaaGreatDoorQcUzz
import Derived.Test.YtejcggjmbjmoeaaGreatDoorQcOpen
import Derived.Test.YtejcggjmbjmoeaaGreatDoorQcUc
import Derived.Test.YtejcggjmbjmoeaaGreatDoorProg
import Derived.WalkKit
import Derived.WalkSpells
import Derived.WalkLawsBesides
import Derived.Lib.QuietBelow
import Derived.Laws.BitsAllLaws
import Derived.BigQuiet
import Derived.WalkMore
import Derived.Test.YtejcggjmbjmoeaaGreatDoorQcUm
import Derived.OrdersHeld
import Derived.Deep.RegionHeld3
import Derived.RangeFuncNested
import Derived.RangeFuncBound
import Derived.RangeFuncCalls
import Derived.RangeFuncLeaves
import Derived.Shelf.Abstract
import Derived.Shelf.RegionOpen
import Derived.OwnWalkIn
import Derived.TacticsInMore
import Derived.LoopNIn
import Derived.LoopIn
import Derived.Maps.AppendAt
import Derived.RangeFuncBox
import Derived.ProofKit
import Derived.OpenShut
import Derived.ChangeSlices
import Derived.ChangeArms
import Derived.SizedLaws
import Derived.Deep.Slices
namespace Go.Proofs.YtejcggjmbjmoeaaGreatDoor
set_option maxRecDepth 100000
open Go Go.RowKit Go.Sort
attribute [local go_sem] setCell_drewN alloc_drewN
theorem hmf : ∀ (fn : Fn) (first cap : Array Value) (w : World), (Instr.makeFunc fn first cap).run Tryz.prog w = .ok (.func fn first cap) w := fun _ _ _ _ => rfl
theorem eql_nils (W : World) : (binOp .eql 20 .nilIface .nilIface).run Tryz.prog W = .ok (.bool true) W := by kernel_rfl
theorem eql_fault (v : Value) (W : World) : (binOp .eql 20 (.iface 70 v) .nilIface).run Tryz.prog W = .ok (.bool false) W := by kernel_rfl
theorem ta_fault (v : Value) (W : World) : (Instr.typeAssert (.iface 70 v) 20 70 true).run Tryz.prog W = .ok (.tuple #[v, .bool true]) W := by kernel_rfl
set_option maxRecDepth 100000 in
theorem catch_idle (p : Addr) (w : World) : CallsD Tryz.prog 50 #[.pointer (some p)] .returning w fun e u' w' => e = .returned (.tuple #[]) ∧ u' = .returning ∧ w' = w := by
 refine callsD_of_wpS Tryz.func50 rfl fun c₀ cs hu => ?_
 apply wpS_seq
 apply wpS_region
 simp [wpOpsS, go_sem, recoverD, hu, Tryz.ntmps50, Exit.thenS, Array.replicate]
 refine wpS_of_wp ?_
 have h1 := eql_nils
 go_wp2
 cases c₀
 simp_all [bodyPostS, results, Tryz.results50]
set_option maxRecDepth 100000 in
theorem catch_panicking (p : Addr) (old : Value) (g : Nat) (older : List PanicEntry) (w : World) (hc : w.cell? p = some old) (hz : w.frozen? p = false) :
 CallsD Tryz.prog 50 #[.pointer (some p)] (.panicking ({ v := .iface 70 (.pointer (some ⟨g, 0, none⟩)), recovered := false } :: older)) w fun e u' w' =>
  e = .returned (.tuple #[]) ∧ u' = .panicking ({ v := .iface 70 (.pointer (some ⟨g, 0, none⟩)), recovered := true } :: older) ∧ w' = w.setCell p (.iface 70 (.pointer (some ⟨g, 0, none⟩))) := by
 refine callsD_of_wpS Tryz.func50 rfl fun c₀ cs hu => ?_
 apply wpS_seq
 apply wpS_region
 simp [wpOpsS, go_sem, recoverD, hu, Tryz.ntmps50, Exit.thenS, Array.replicate]
 refine wpS_of_wp ?_
 have h1 := eql_fault (.pointer (some ⟨g, 0, none⟩))
 have h2 := ta_fault (.pointer (some ⟨g, 0, none⟩))
 go_wp2
 cases c₀
 simp_all [bodyPostS, results, Tryz.results50]
def Cgt (base : Nat) (f : Option Flt3) (e : Ending) (w' : World) : Prop :=
 match f with
 | none => e = .returned .nilIface
 | some x => ∃ g, e = .returned (.iface 70 (.pointer (some ⟨g, 0, none⟩))) ∧ base ≤ g ∧ w'.heap[g]? = some (.cells (frw x) 41 (0, 0))
set_option maxRecDepth 100000 in
set_option maxHeartbeats 4000000 in
theorem a_caughtC (F : Option Flt3) (ca cb : Value) (w : World)
 (hD : ∀ V, Below w.heap.size w V → Calls Tryz.prog 32 #[ca, cb] V fun e w' => Gup V.heap.size F e w' (fun v => v = .tuple #[]) ∧ Below V.heap.size V w') :
 Calls Tryz.prog 31 #[.func (.func 32) #[] #[ca, cb]] w fun e w' => Cgt w.heap.size F e w' ∧ Below w.heap.size w w' := by
 have h0 := hmf
 have hb0 : Below w.heap.size w (w.alloc (.cells #[.nilIface] 37)) := (Below.refl _ _).alloc (Nat.le_refl _) _
 have r0 := hp1_0 w (.cells #[.nilIface] 37)
 have cD := hD _ hb0
 clear hD
 go_enter_defers Tryz.func31, Tryz.ntmps31
 go_wp2_with (fail)
 refine cD.mono ?_
 rintro e_ w1 ⟨hG, hb1⟩
 cases F with
 | none =>
  obtain ⟨v, rfl, rfl⟩ := hG
  have r1 := keep hb1 r0
  have c1 : w1.cell? ⟨w.heap.size, 0, none⟩ = some .nilIface := by rw [cell_of_row _ _ _ _ _ _ r1]; rfl
  have f1 := row_frozen r1 0
  have hw := Below.after hb0 hb1
  have r2 := heap_setCell_same w1 w.heap.size 0 _ _ .nilIface r1
  have hw2 := hw.setCell (show w.heap.size ≤ (⟨w.heap.size, 0, none⟩ : Addr).block from Nat.le_refl _) .nilIface
  have c2 : (w1.setCell ⟨w.heap.size, 0, none⟩ .nilIface).cell? ⟨w.heap.size, 0, none⟩ = some .nilIface := by rw [cell_of_row _ _ _ _ _ _ r2]; rfl
  go_wp2
  refine leaves_cons (f := 50) (args := #[.pointer (some ⟨w.heap.size, 0, none⟩)]) (by simp) (by simp [go_sem]) ?_
  refine (catch_idle ⟨w.heap.size, 0, none⟩ _).mono ?_
  rintro e u' w'' ⟨rfl, rfl, rfl⟩
  simp [Leaves, settle, results, Tryz.results31, go_sem, c2]
  exact ⟨rfl, hw2⟩
 | some f =>
  obtain ⟨g, rfl, hg1, hg2⟩ := hG
  have r1 := keep hb1 r0
  have c1 : w1.cell? ⟨w.heap.size, 0, none⟩ = some .nilIface := by rw [cell_of_row _ _ _ _ _ _ r1]; rfl
  have f1 := row_frozen r1 0
  have hw := Below.after hb0 hb1
  have r2 := heap_setCell_same w1 w.heap.size 0 _ _ (.iface 70 (.pointer (some ⟨g, 0, none⟩))) r1
  have hw2 := hw.setCell (show w.heap.size ≤ (⟨w.heap.size, 0, none⟩ : Addr).block from Nat.le_refl _) (.iface 70 (.pointer (some ⟨g, 0, none⟩)))
  have c2 : (w1.setCell ⟨w.heap.size, 0, none⟩ (.iface 70 (.pointer (some ⟨g, 0, none⟩)))).cell? ⟨w.heap.size, 0, none⟩ = some (.iface 70 (.pointer (some ⟨g, 0, none⟩))) := by rw [cell_of_row _ _ _ _ _ _ r2]; rfl
  go_wp2
  refine leaves_cons (f := 50) (args := #[.pointer (some ⟨w.heap.size, 0, none⟩)]) (by simp) (by simp [go_sem]) ?_
  refine (catch_panicking ⟨w.heap.size, 0, none⟩ .nilIface g [] _ c1 f1).mono ?_
  rintro e u' w'' ⟨rfl, rfl, rfl⟩
  simp [Leaves, settle, results, Tryz.results31, go_sem, c2]
  rw [size_alloc1] at hg1
  exact ⟨⟨g, rfl, by omega, (heap_setCell_other w1 ⟨w.heap.size, 0, none⟩ g _ (show g ≠ w.heap.size by omega)).trans hg2⟩, hw2⟩
end Go.Proofs.YtejcggjmbjmoeaaGreatDoor
namespace Go.Proofs.YtejcggjmbjmoeaaGreatDoor
set_option maxRecDepth 100000
open Go Go.RowKit Go.Sort
attribute [local go_sem] setCell_drewN alloc_drewN
theorem wp_call_up {P : Program} {o : Oper} {a : Act} {w : World} {K : Act → World → Prop} {Q : Exit → Act → World → Prop} {f : FuncId} {args : Array Value} {base : Nat} {F : Option Flt3} {R : Value → Prop} {B : World → Prop} (hx : (execOp a.eval o).run P w = .ok (.enter f args) w)
 (c : Calls P f args w fun e w' => Gup base F e w' R ∧ B w') (h : F = none → ∀ v w', R v → B w' → K (a.put o.dst v) w')
 (hp : ∀ x, F = some x → ∀ g w', base ≤ g → w'.heap[g]? = some (.cells (frw x) 41 (0, 0)) → B w' → Q (.panic [{ v := .iface 70 (.pointer (some ⟨g, 0, none⟩)), recovered := false }]) a w') : o.wp P a w K Q := by
 unfold Oper.wp
 rw [hx, Oper.upon_enter]
 refine c.mono fun e w' ⟨hG, hB⟩ => ?_
 cases F with
 | none =>
  obtain ⟨v, rfl, hv⟩ := hG
  exact h rfl v w' hv hB
 | some x =>
  obtain ⟨g, rfl, h1, h2⟩ := hG
  exact hp x rfl g w' h1 h2 hB
theorem run_call_val {P : Program} {o : Oper} {ρ : Operand → Value} {w : World} {f : FuncId} {caps : Array Value} (x : Operand) (ys : Array Operand) (ats : Array TypeId) (ho : o.op = .call { callee := .value x, args := ys, argTypes := ats }) (hx : ρ x = .func (.func f) #[] caps) (args : Array Value) (hys : ys.map ρ = args) (hent : ∀ args W, (callFunc f args).run P W = .ok (.enter f args) W) : (execOp ρ o).run P w = .ok (.enter f (args ++ caps)) w := by
 unfold execOp
 simp only [ho, resolve, hx, hys, Deferred.ofValue, invoke, Sem.run_bind, Sem.run_pure, Result.andThen_ok, hent, Array.empty_append]
structure VR where
 num : Nat
 da : Option Addr
 dl : Nat
 dc : Nat
 pa : Option Addr
 pl : Nat
 pc : Nat
def vrv (x : VR) : Array Value := vrw x.num (.slice x.da x.dl x.dc) (.slice x.pa x.pl x.pc)
def vr0 : VR := ⟨0, none, 0, 0, none, 0, 0⟩
def gx (xs : List VR) (i : Nat) : VR := xs.getD i vr0
def Prt (W : World) (v : Value) (xs : List VR) : Prop := ∃ ao cap, v = .slice ao xs.length cap ∧ xs.length ≤ cap ∧ (∀ i, i < xs.length → (gx xs i).num < 18446744073709551616 ∧ (gx xs i).dl < 9223372036854775808) ∧ ∀ i, i < xs.length → ∃ b off, ao = some ⟨b, off, none⟩ ∧ b < W.heap.size ∧ W.rangeAt b (off + i * 3) (vrv (gx xs i)).toList
theorem Prt.keep {W V : World} {v : Value} {xs : List VR} (h : Prt W v xs) (hb : Below W.heap.size W V) : Prt V v xs := by
 obtain ⟨ao, cap, e, hc, hn, h⟩ := h
 refine ⟨ao, cap, e, hc, hn, fun i hi => ?_⟩
 obtain ⟨b, off, h1, h2, h3⟩ := h i hi
 exact ⟨b, off, h1, Nat.lt_of_lt_of_le h2 hb.size, rangeS_keep2 h3 hb h2⟩
theorem ent_plain1 (args : Array Value) (W : World) : (callFunc 114 args).run Tryz.prog W = .ok (.enter 114 args) W := by kernel_rfl
end Go.Proofs.YtejcggjmbjmoeaaGreatDoor
namespace Go.Proofs.YtejcggjmbjmoeaaGreatDoor
set_option maxRecDepth 100000
open Go Go.RowKit Go.Sort
attribute [local go_sem] setCell_drewN alloc_drewN
theorem infoSt' : (Tryz.prog.info? 114).map (·.size) = some 5 := by kernel_rfl
end Go.Proofs.YtejcggjmbjmoeaaGreatDoor
namespace Go.Proofs.YtejcggjmbjmoeaaGreatDoor
set_option maxRecDepth 100000
open Go Go.RowKit Go.Sort
attribute [local go_sem] setCell_drewN alloc_drewN
def Cdc (W : World) (g : Nat) (ts : List Slt) : Prop := ∃ x, RdL W (fun _ => True) x ts ∧ W.heap[g]? = some (.cells #[x, .int .i64 ((prS ts).1 : Int), .int .i64 ((prS ts).2 : Int)] 77 (0, 0))
theorem Cdc.keep {W V : World} {g : Nat} {ts : List Slt} (h : Cdc W g ts) (hb : Below W.heap.size W V) : Cdc V g ts := by
 obtain ⟨x, h1, h2⟩ := h
 exact ⟨x, h1.keep (Sty.below hb), (hb.block g (lt_of_row h2)).trans h2⟩
end Go.Proofs.YtejcggjmbjmoeaaGreatDoor
namespace Go.Proofs.YtejcggjmbjmoeaaGreatDoor
set_option maxRecDepth 100000
open Go Go.RowKit Go.Sort
attribute [local go_sem] setCell_drewN alloc_drewN
theorem range_row {W : World} {g : Nat} {c : Array Value} (h : Bx W g c) : W.rangeAt g 0 c.toList := fun j v hv => by
 obtain ⟨T, h⟩ := h
 rw [Nat.zero_add, cell_of_row _ _ _ _ _ _ h]
 simpa using hv
set_option maxRecDepth 100000 in
set_option maxHeartbeats 4000000 in
theorem a_check1 (F : Option Flt3) (bc bv g : Nat) (xo : Option Addr) (xn xc : Nat) (lo hi : Int) (n : Nat) (da : Option Addr) (dl dc : Nat) (pa : Option Addr) (pl pc : Nat) (w : World)
 (hc : Bx w bc #[.pointer (some ⟨g, 0, none⟩)]) (hv : Bx w bv #[.int .u64 (n : Int), .slice da dl dc, .slice pa pl pc]) (hg : Bx w g #[.slice xo xn xc, .int .i64 lo, .int .i64 hi])
 (cC : ∀ V, Below w.heap.size w V → Calls Tryz.prog 33 #[.slice xo xn xc, .agg #[.int .u64 (n : Int), .slice da dl dc, .slice pa pl pc], .int .i64 1] V fun e w' => Gup V.heap.size F e w' (fun v => v = .tuple #[]) ∧ Below V.heap.size V w') :
 Calls Tryz.prog 32 #[.pointer (some ⟨bc, 0, none⟩), .pointer (some ⟨bv, 0, none⟩)] w fun e w' => Gup w.heap.size F e w' (fun v => v = .tuple #[]) ∧ Below w.heap.size w w' := by
 go_enter Tryz.func32, Tryz.ntmps32
 have hS0 : (fun W : World => Bx W bc #[.pointer (some ⟨g, 0, none⟩)] ∧ Bx W bv #[.int .u64 (n : Int), .slice da dl dc, .slice pa pl pc] ∧ Bx W g #[.slice xo xn xc, .int .i64 lo, .int .i64 hi]) w := ⟨hc, hv, hg⟩
 refine wp_region_held (S := fun W : World => Bx W bc #[.pointer (some ⟨g, 0, none⟩)] ∧ Bx W bv #[.int .u64 (n : Int), .slice da dl dc, .slice pa pl pc] ∧ Bx W g #[.slice xo xn xc, .int .i64 lo, .int .i64 hi]) (by kernel_rfl) ?_
 change wpAnyH _ _ _ _ _ _ _ _ (World.drew _)
 have hbd : Below w.heap.size w w.drew := below_drN (Below.refl _ _) 1
 replace hS0 : (fun W : World => Bx W bc #[.pointer (some ⟨g, 0, none⟩)] ∧ Bx W bv #[.int .u64 (n : Int), .slice da dl dc, .slice pa pl pc] ∧ Bx W g #[.slice xo xn xc, .int .i64 lo, .int .i64 hi]) w.drew := hS0
 have cC2 : Calls Tryz.prog 33 #[.slice xo xn xc, .agg #[.int .u64 (n : Int), .slice da dl dc, .slice pa pl pc], .int .i64 1] w.drew fun e w' => Gup w.heap.size F e w' (fun v => v = .tuple #[]) ∧ Below w.heap.size w w' := (cC w.drew hbd).mono fun e w' h => ⟨h.1, Below.after hbd h.2⟩
 clear cC
 refine wpAnyH_take (i := 0) (v := .pointer (some ⟨g, 0, none⟩)) rfl (by kernel_rfl) (by kernel_rfl) (by kernel_rfl) (fun _ _ _ h => h) (Or.inl ⟨by rfl, ?y1⟩) hS0 ?r1
 case y1 =>
  intro w_ hS_
  obtain ⟨_, h_⟩ := hS_.1
  have c_ := cell_of_row _ _ 0 _ _ _ h_
  go_simp
  try with_reducible rfl
 simp only [Act.put, List.getElem_toArray, List.getElem_cons_zero, List.setIfInBounds_toArray, List.set_cons_succ, List.set_cons_zero]
 refine wpAnyH_take (i := 1) (v := ?v2) rfl (by kernel_rfl) (by kernel_rfl) (by kernel_rfl) (fun _ _ _ h => h) (Or.inl ⟨by rfl, ?y2⟩) hS0 ?r2
 case y2 =>
  intro w_ hS_
  go_simp
  try with_reducible rfl
 simp only [Act.put, List.getElem_toArray, List.getElem_cons_succ, List.getElem_cons_zero, List.setIfInBounds_toArray, List.set_cons_succ, List.set_cons_zero]
 refine wpAnyH_take (i := 2) (v := ?v3) rfl (by kernel_rfl) (by kernel_rfl) (by kernel_rfl) (fun _ _ _ h => h) (Or.inl ⟨by rfl, ?y3⟩) hS0 ?r3
 case y3 =>
  intro w_ hS_
  go_simp
  try with_reducible rfl
 simp only [Act.put, List.getElem_toArray, List.getElem_cons_succ, List.getElem_cons_zero, List.setIfInBounds_toArray, List.set_cons_succ, List.set_cons_zero]
 refine wpAnyH_take (i := 3) (v := .slice xo xn xc) rfl (by kernel_rfl) (by kernel_rfl) (by kernel_rfl) (fun _ _ _ h => h) (Or.inl ⟨by rfl, ?y4⟩) hS0 ?r4
 case y4 =>
  intro w_ hS_
  obtain ⟨_, h_⟩ := hS_.2.2
  have c_ := cell_of_row _ _ 0 _ _ _ h_
  go_simp
  try with_reducible rfl
 simp only [Act.put, List.getElem_toArray, List.getElem_cons_succ, List.getElem_cons_zero, List.setIfInBounds_toArray, List.set_cons_succ, List.set_cons_zero]
 refine wpAnyH_take (i := 4) (v := .agg #[.int .u64 (n : Int), .slice da dl dc, .slice pa pl pc]) rfl (by kernel_rfl) (by kernel_rfl) (by kernel_rfl) (fun _ _ _ h => h) (yieldsIf_load_mid (by rfl) 27 _ rfl bv 0 rfl [.int .u64 (n : Int), .slice da dl dc, .slice pa pl pc] _ (fun _ h => range_row h.2.1) Tryz.underlying27 rfl infoV) hS0 ?_
 simp only [Act.put, List.getElem_toArray, List.getElem_cons_succ, List.getElem_cons_zero, List.setIfInBounds_toArray, List.set_cons_succ, List.set_cons_zero]
 refine wpAnyH_one (k := 5) (fuel := 0) (by kernel_rfl) rfl (by kernel_rfl) (fun K_ hK => ?_)
 refine wp_call_up (base := w.heap.size) (F := F) (R := fun v => v = .tuple #[]) (B := fun w' => Below w.heap.size w w') ?hx cC2 ?_ ?_
 case hx => kernel_rfl
 ·intro hF v_ w4 hv4 hb4
  subst hv4
  subst hF
  refine hK _ _ ⟨hc.keep hb4, hv.keep hb4, hg.keep hb4⟩ ?_
  simp only [Act.put, List.getElem_toArray, List.getElem_cons_succ, List.getElem_cons_zero, List.setIfInBounds_toArray, List.set_cons_succ, List.set_cons_zero]
  clear hK
  refine wpAnyH_done (by kernel_rfl) ?_ _
  go_wp2_with (fail)
  go_end0
  exact ⟨⟨_, rfl, rfl⟩, hb4⟩
 ·intro x hF g4 w4 h1 h2 hb4
  subst hF
  go_wp2_with (fail)
  exact ⟨rfl, ⟨g4, rfl, h1, h2⟩, hb4⟩
theorem bVal (cs : Array Value) (W : World) : (Instr.box 27 (.agg cs)).run Tryz.prog W = .ok (.pointer (some ⟨W.heap.size, 0, none⟩)) (W.alloc (.cells cs 27)) := by kernel_rfl
end Go.Proofs.YtejcggjmbjmoeaaGreatDoor
namespace Go.Proofs.YtejcggjmbjmoeaaGreatDoor
set_option maxRecDepth 100000
open Go Go.RowKit Go.Sort
attribute [local go_sem] setCell_drewN alloc_drewN
theorem Fok.hd {f : Fd} (h1 : f.no ≤ 536870911) (h2 : f.ty < 8) : fhd f < 18446744073709551616 := by unfold fhd; omega
end Go.Proofs.YtejcggjmbjmoeaaGreatDoor
namespace Go.Proofs.YtejcggjmbjmoeaaGreatDoor
set_option maxRecDepth 100000
open Go Go.RowKit Go.Sort
attribute [local go_sem] setCell_drewN alloc_drewN
end Go.Proofs.YtejcggjmbjmoeaaGreatDoor
namespace Go.Proofs.YtejcggjmbjmoeaaGreatDoor
set_option maxRecDepth 100000
open Go Go.RowKit Go.Sort
attribute [local go_sem] setCell_drewN alloc_drewN
def frs : List Fd → List Value → List Value
 | f :: fs, u :: us => frow f u ++ frs fs us
 | _, _ => []
theorem frs_at : ∀ (fs : List Fd) (us : List Value) (i j : Nat), us.length = fs.length → i < fs.length → j < 4 → (frs fs us)[i * 4 + j]? = (frow (gf fs i) (gv us i))[j]?
 | [], _, i, _, _, h, _ => by simp at h
 | f :: fs, [], _, _, h, _, _ => by simp at h
 | f :: fs, u :: us, 0, j, h, _, hj => by
  rw [frs, Nat.zero_mul, Nat.zero_add, List.getElem?_append_left (by show j < 4; exact hj)]
  rfl
 | f :: fs, u :: us, i + 1, j, h, hi, hj => by
  rw [frs, List.getElem?_append_right (by show 4 ≤ _; omega)]
  have : (i + 1) * 4 + j - (frow f u).length = i * 4 + j := by show _ - 4 = _; omega
  rw [this, frs_at fs us i j (by simpa using h) (by simpa using hi) hj]
  rfl
def Fts (W : World) (base : Nat) (v : Value) (us : List Value) (fs : List Fd) : Prop :=
 W.ownsRow base 118 4 v fs.length (frs fs us) ∧ us.length = fs.length ∧ (∀ i, i < us.length → Own W base (gv us i) (gf fs i).dat) ∧
 (∀ i, i < us.length → ∀ k, (gv us i).ownBlock = some k → v.ownBlock ≠ some k) ∧ (∀ i j, i < j → j < us.length → ∀ k, (gv us i).ownBlock = some k → (gv us j).ownBlock ≠ some k)
theorem Fts.keep {W V : World} {b : Nat} {v : Value} {us : List Value} {fs : List Fd} (h : Fts W b v us fs) (hb : Below W.heap.size W V) : Fts V b v us fs :=
 ⟨own_keep_row h.1 hb, h.2.1, fun i hi => (h.2.2.1 i hi).keep hb, h.2.2.2⟩
end Go.Proofs.YtejcggjmbjmoeaaGreatDoor
namespace Go.Proofs.YtejcggjmbjmoeaaGreatDoor
set_option maxRecDepth 100000
open Go Go.RowKit Go.Sort
attribute [local go_sem] setCell_drewN alloc_drewN
end Go.Proofs.YtejcggjmbjmoeaaGreatDoor
namespace Go.Proofs.YtejcggjmbjmoeaaGreatDoor
set_option maxRecDepth 100000
open Go Go.RowKit Go.Sort
attribute [local go_sem] setCell_drewN alloc_drewN
theorem wp_val_op {P : Program} {o : Oper} {a : Act} {w w' : World} {K : Act → World → Prop} {Q : Exit → Act → World → Prop} (v : Value) (hx : (execOp a.eval o).run P w = .ok (.value v) w') (h : K (a.put o.dst v) w') : o.wp P a w K Q := by
 unfold Oper.wp
 rw [hx, Oper.upon_value]
 exact h
end Go.Proofs.YtejcggjmbjmoeaaGreatDoor
namespace Go.Proofs.YtejcggjmbjmoeaaGreatDoor
set_option maxRecDepth 100000
open Go Go.RowKit Go.Sort
attribute [local go_sem] setCell_drewN alloc_drewN
end Go.Proofs.YtejcggjmbjmoeaaGreatDoor
namespace Go.Proofs.YtejcggjmbjmoeaaGreatDoor
set_option maxRecDepth 100000
open Go Go.RowKit Go.Sort
attribute [local go_sem] setCell_drewN alloc_drewN
inductive RI where
 | er (e : Int)
 | ok (p : List B) (n : Nat)
def ri (l : List B) : RI := match rd 0 l with
 | .er e => .er e
 | .ok v n => if l.length - n < v then .er 73 else .ok ((l.drop n).take v) (n + v)
inductive RS where
 | er (e : Int) (p : Nat)
 | ok (ps : List (List B))
def RS.cons (p : List B) : RS → RS
 | .er e q => .er e q
 | .ok l => .ok (p :: l)
def spl : Nat → Nat → Nat → List B → RS
 | 0, _, _, _ => .ok []
 | f + 1, p, c, l => if l = [] then .ok [] else if c = 4096 then .er 2 p else match ri l with
  | .er e => .er e p
  | .ok x n => (spl f (p + n) (c + 1) (l.drop n)).cons x
def sp (l : List B) : RS := if 4194304 < l.length then .er 2 0 else spl l.length 0 0 l
def RS.after (ps : List (List B)) : RS → RS
 | .er e q => .er e q
 | .ok l => .ok (ps ++ l)
def slc (ao : Option Addr) (cap m n : Nat) : Value := .slice (if cap = m then ao else ao.map (·.add (m * 1))) (n - m) (cap - m)
theorem bysB_mid {W : World} {ao : Option Addr} {cap m n : Nat} {d : List B} (h : BysB W (.slice ao d.length cap) d) (hmn : m ≤ n) (hn : n ≤ d.length) (hc : d.length ≤ cap) : BysB W (slc ao cap m n) ((d.drop m).take (n - m)) := by
 obtain ⟨⟨ao', c', e, hl, hce, hz⟩, h2, h3⟩ := h
 rw [bl_len] at e
 cases e
 have hln : (bl ((d.drop m).take (n - m))).length = n - m := by rw [bl_len, List.length_take, List.length_drop]; omega
 rw [bl_len] at hl hce
 refine ⟨⟨if cap = m then ao else ao.map (·.add (m * 1)), cap - m, by rw [hln]; rfl, by rw [hln]; omega, fun j hj => ?_, bl_bnd _⟩, by rw [List.length_take, List.length_drop]; omega, fun a l c hv ha => ?_⟩
 ·rw [hln] at hj
  obtain ⟨b2, off2, e2, hb, hcell⟩ := hce (m + j) (by omega)
  subst e2
  refine ⟨b2, off2 + m, ?_, hb, ?_⟩
  ·rw [if_neg (by omega), Option.map_some, addr_add, Nat.mul_one]
  ·rw [show off2 + m + j = off2 + (m + j) by omega, hcell, bl_get, bl_get, List.getD_eq_getElem?_getD, List.getD_eq_getElem?_getD, List.getElem?_take_of_lt hj, List.getElem?_drop]
 ·unfold slc at hv
  injection hv with q1 q2 q3
  subst q3
  subst q1
  cases ao with
  | none =>
   have := h3 none _ _ rfl rfl
   omega
  | some x =>
   split at ha
   ·cases ha
   ·cases ha
end Go.Proofs.YtejcggjmbjmoeaaGreatDoor
namespace Go.Proofs.YtejcggjmbjmoeaaGreatDoor
set_option maxRecDepth 100000
open Go Go.RowKit Go.Sort
attribute [local go_sem] setCell_drewN alloc_drewN
inductive RH where
 | er (e : Int)
 | ok (no ty : Int) (n : Nat)
def hres (p : Nat) : RH → Value
 | .er e => .tuple #[.agg #[.int .i64 0, .int .i64 0, .int .u64 0, .slice none 0 0], .int .i64 0, .int .i64 e]
 | .ok no ty n => .tuple #[.agg #[.int .i64 no, .int .i64 ty, .int .u64 0, .slice none 0 0], .int .i64 ((p + n : Nat) : Int), .int .i64 0]
end Go.Proofs.YtejcggjmbjmoeaaGreatDoor
namespace Go.Proofs.YtejcggjmbjmoeaaGreatDoor
set_option maxRecDepth 100000
open Go Go.RowKit Go.Sort
attribute [local go_sem] setCell_drewN alloc_drewN
def WpStay (p : Prop) : Prop := p
theorem wpList_stay {P : Program} {ops : Array Oper} {rest : List Oper} {a : Act} {w : World} {Q : Exit → Act → World → Prop} (h : WpStay (wpList P ops Q rest a w)) : wpList P ops Q rest a w := h
theorem row_set {W : World} {g : Nat} {cs : Array Value} {t : TypeId} (hg : W.heap[g]? = some (.cells cs t (0, 0))) (j : Nat) (z : Value) : (W.setCell ⟨g, j, none⟩ z).heap[g]? = some (.cells (cs.setIfInBounds j z) t (0, 0)) :=
 heap_setCell_same W g j _ t _ hg
def wkr (v : Value) : Array Value := #[v, .int .i64 0, .int .i64 0]
end Go.Proofs.YtejcggjmbjmoeaaGreatDoor
namespace Go.Proofs.YtejcggjmbjmoeaaGreatDoor
set_option maxRecDepth 100000
open Go Go.RowKit Go.Sort
attribute [local go_sem] setCell_drewN alloc_drewN
open Go.Shelf
attribute [local go_sem] Oper.semAt_some
def DecJ (w : World) (v : Value) (r : Loop) (pre : List (Nat × Fd)) (A : World) : Prop :=
 A.heap[w.heap.size + 3]? = some (.loop r) ∧ A.heap[w.heap.size + 2]? = some (.deferred (some [])) ∧ A.heap[w.heap.size + 1]? = some (.cells (wkr v) 165 (0, 0)) ∧
 (∃ u us, A.heap[w.heap.size]? = some (.cells #[u] 116 (0, 0)) ∧ Fts A (w.heap.size + 4) u us (pre.map (·.2))) ∧ Below w.heap.size w A
theorem DecJ.keep {w A C : World} {v : Value} {r : Loop} {pre : List (Nat × Fd)} (h : DecJ w v r pre A) (hb : Below A.heap.size A C) : DecJ w v r pre C := by
 obtain ⟨h1, h2, h3, ⟨u, us, h4, h5⟩, h6⟩ := h
 exact ⟨Go.Proofs.YtejcggjmbjmoeaaGreatDoor.keep hb h1, Go.Proofs.YtejcggjmbjmoeaaGreatDoor.keep hb h2, Go.Proofs.YtejcggjmbjmoeaaGreatDoor.keep hb h3, ⟨u, us, Go.Proofs.YtejcggjmbjmoeaaGreatDoor.keep hb h4, h5.keep hb⟩, Below.after h6 hb⟩
end Go.Proofs.YtejcggjmbjmoeaaGreatDoor
namespace Go.Proofs.YtejcggjmbjmoeaaGreatDoor
set_option maxRecDepth 100000
open Go Go.RowKit Go.Sort
attribute [local go_sem] setCell_drewN alloc_drewN
end Go.Proofs.YtejcggjmbjmoeaaGreatDoor
namespace Go.Proofs.YtejcggjmbjmoeaaGreatDoor
set_option maxRecDepth 100000
open Go Go.RowKit Go.Sort
/-! What is read is the one form of what it comes to; what is written is read back. -/
end Go.Proofs.YtejcggjmbjmoeaaGreatDoor
namespace Go.Proofs.YtejcggjmbjmoeaaGreatDoor
set_option maxRecDepth 100000
open Go Go.RowKit Go.Sort
attribute [local go_sem] setCell_drewN alloc_drewN
end Go.Proofs.YtejcggjmbjmoeaaGreatDoor
namespace Go.Proofs.YtejcggjmbjmoeaaGreatDoor
set_option maxRecDepth 100000
open Go Go.RowKit Go.Sort
/-! What Encode writes, Decode reads back. -/
end Go.Proofs.YtejcggjmbjmoeaaGreatDoor
namespace Go.Proofs.YtejcggjmbjmoeaaGreatDoor
set_option maxRecDepth 100000
open Go Go.ChangeShapes Go.WideShapes Go.ChangeAt Go.RowKit
theorem cU86 : Tryz.prog.cellsOf 5 = 1 := by kernel_rfl
theorem bU86 : Tryz.prog.bytesOf 5 = 1 := by kernel_rfl
theorem block_lt6 {w : World} {b o : Nat} {v : Value} (h : w.cell? ⟨b, o, none⟩ = some v) : b < w.heap.size := by
 rcases Nat.lt_or_ge b w.heap.size with q | q
 ·exact q
 ·simp [World.cell?, Array.getElem?_eq_none q] at h
def BysC (W : World) (v : Value) (d : List B) : Prop := BysB W v d ∧ d.length ≤ 140737488351232 ∧ ∀ a l c, v = .slice a l c → l ≤ c
theorem bysC_of_trod {H : Type} {enc : TypeId × Value → H} {W : World} {m : Nat} {cs : List Value} {x : DataW H × List MemPlace} (hf : DataW.trod enc Tryz.prog W 0 (fun _ => true) true m 24 cs = some x) (hs : ∀ n ∈ x.1.weights Tryz.prog 24, n ≤ reachBytes) : ∃ v d, cs = [v] ∧ BysC W v d := by
 rcases open_ints Tryz.underlying24 Tryz.underlying5 cU86 hf with ⟨hcs, hx⟩ | ⟨a, len, cap, zs, hcs, _, hl, hm, hz, hx, hcell, hwz⟩
 ·exact ⟨_, [], hcs, ⟨⟨none, 0, rfl, by decide, fun j hj => by simp [bl] at hj, bl_bnd _⟩, by decide, fun a l c h _ => by cases h; rfl⟩, by simp, fun a l c h => by cases h; exact Nat.le_refl _⟩
 ·subst hx
  simp only [if_true] at hz
  have hb := hs ((lits (H := H) .u8 (zs.take len)).length + (lits (H := H) .u8 (zs.drop len)).length) (by simp [DataW.weights, Tryz.underlying24, bU86])
  simp only [lits, List.length_map, List.length_take, List.length_drop, reachBytes] at hb
  have hlen : (zs.take len).length = len := by rw [List.length_take]; omega
  obtain ⟨d, hd, e⟩ := bl_of (zs.take len) (fun z h => u8_of_wf (hwz z (List.mem_of_mem_take h)))
  rw [hlen] at e
  refine ⟨_, d, hcs, ⟨⟨some a, cap, by rw [bl_len, e], by rw [bl_len]; omega, fun j hj => ?_, bl_bnd _⟩, by omega, fun a l c h h2 => by cases h; cases h2⟩, by omega, fun a l c h => by cases h; exact hl⟩
  rw [bl_len, e] at hj
  have hc := hcell j (by omega)
  obtain ⟨bb, off, spot⟩ := a
  have hspot : spot = none := by simpa [Addr.add] using World.cell?_spot (hcell 0 (by omega))
  subst hspot
  rw [addr_add] at hc
  refine ⟨bb, off, rfl, block_lt6 hc, ?_⟩
  rw [hc, ← hd, List.getD_eq_getElem?_getD, List.getD_eq_getElem?_getD, List.getElem?_take_of_lt hj]
end Go.Proofs.YtejcggjmbjmoeaaGreatDoor
namespace Go.Proofs.YtejcggjmbjmoeaaGreatDoor
set_option maxRecDepth 100000
open Go Go.ChangeShapes Go.WideShapes Go.ChangeAt Go.RowKit Go.Deep
/-! Fields out of the data. -/
end Go.Proofs.YtejcggjmbjmoeaaGreatDoor
namespace Go.Proofs.YtejcggjmbjmoeaaGreatDoor
set_option maxRecDepth 100000
open Go Go.RowKit Go.Sort
attribute [local go_sem] setCell_drewN alloc_drewN
end Go.Proofs.YtejcggjmbjmoeaaGreatDoor
namespace Go.Proofs.YtejcggjmbjmoeaaGreatDoor
set_option maxRecDepth 100000
open Go Go.RowKit Go.Sort
end Go.Proofs.YtejcggjmbjmoeaaGreatDoor
namespace Go.Proofs.YtejcggjmbjmoeaaGreatDoor
set_option maxRecDepth 100000
open Go Go.RowKit Go.Sort
/-! Values as trees, in memory; what check finds in them, on trees. -/
inductive VT where
 | mk (num : Nat) (dat : List B) (parts : List VT)
namespace VT
def num : VT → Nat
 | .mk n _ _ => n
def dat : VT → List B
 | .mk _ d _ => d
def parts : VT → List VT
 | .mk _ _ p => p
end VT
def vt0 : VT := .mk 0 [] []
def gvt (ps : List VT) (i : Nat) : VT := ps.getD i vt0
def lv (n : Nat) (a : Option Addr) : Option Addr := if n = 0 then none else a
theorem lv_some {n : Nat} {a : Option Addr} {x : Addr} (h : lv n a = some x) : a = some x := by
 unfold lv at h
 split at h
 ·cases h
 ·exact h
theorem lv_pos {n : Nat} {a : Option Addr} (h : 0 < n) : lv n a = a := if_neg (by omega)
def InS (W : World) (S : Nat → Prop) (da : Option Addr) : Prop := ∀ a, da = some a → S a.block ∧ a.block < W.heap.size
inductive VtM (W : World) (S : Nat → Prop) : VR → VT → Prop
 | mk (x : VR) (bs : List B) (xs : List VR) (ps : List VT) (hn : x.num < 18446744073709551616) (hdl : x.dl = bs.length) (hbl : bs.length ≤ 140737488351232) (hd : BysB W (.slice x.da x.dl x.dc) bs) (hdc : x.dl ≤ x.dc) (hds : InS W S (lv x.dl x.da))
  (hpl : x.pl = ps.length) (hxl : xs.length = ps.length) (hpc : ps.length ≤ x.pc) (hpm : ps.length ≤ 5864062014634) (hps : InS W S (lv x.pl x.pa)) (hP : ∀ i, i < ps.length → ∃ b off, x.pa = some ⟨b, off, none⟩ ∧ W.rangeAt b (off + i * 3) (vrv (gx xs i)).toList)
  (hs : ∀ i, i < ps.length → VtM W S (gx xs i) (gvt ps i)) : VtM W S x (.mk x.num bs ps)
theorem InS.keep {W V : World} {S T : Nat → Prop} {da : Option Addr} (h : InS W S da) (hk : Sty W V S T) : InS V T da := fun a e => ⟨(hk.2 _ (h a e).2 (h a e).1).2, Nat.lt_of_lt_of_le (h a e).2 hk.1⟩
theorem BysB.sty {W V : World} {S T : Nat → Prop} {da : Option Addr} {dl dc : Nat} {bs : List B} (h : BysB W (.slice da dl dc) bs) (hi : InS W S (lv dl da)) (hk : Sty W V S T) : BysB V (.slice da dl dc) bs := by
 obtain ⟨⟨ao, cap, e, hl, hc, hz⟩, h2⟩ := h
 refine ⟨⟨ao, cap, e, hl, fun j hj => ?_, hz⟩, h2⟩
 obtain ⟨b, off, e2, hb, hcell⟩ := hc j hj
 injection e with e3 e4 e5
 subst e3
 have q := hi _ ((lv_pos (by omega)).trans e2)
 refine ⟨b, off, e2, Nat.lt_of_lt_of_le hb hk.1, ?_⟩
 rw [← hcell]
 show V.cell? ⟨b, off + j, none⟩ = W.cell? ⟨b, off + j, none⟩
 simp only [World.cell?, (hk.2 b q.2 q.1).1]
theorem VtM.keep {W V : World} {S T : Nat → Prop} {x : VR} {X : VT} (h : VtM W S x X) (hk : Sty W V S T) : VtM V T x X := by
 induction h with
 | mk x bs xs ps hn hdl hbl hd hdc hds hpl hxl hpc hpm hps hP hs ih =>
  refine .mk x bs xs ps hn hdl hbl (hd.sty hds hk) hdc (hds.keep hk) hpl hxl hpc hpm (hps.keep hk) (fun i hi => ?_) ih
  obtain ⟨b, off, e, h2⟩ := hP i hi
  have q := hps _ ((lv_pos (by omega)).trans e)
  exact ⟨b, off, e, range_same h2 (hk.2 b q.2 q.1).1⟩
theorem VtM.blw {W V : World} {S : Nat → Prop} {x : VR} {X : VT} (h : VtM W S x X) (hb : Below W.heap.size W V) : VtM V S x X := h.keep (Sty.below hb)
theorem VtM.num_eq {W : World} {S : Nat → Prop} {x : VR} {X : VT} (h : VtM W S x X) : x.num = X.num ∧ x.num < 18446744073709551616 ∧ x.dl = X.dat.length ∧ x.dl ≤ 140737488351232 ∧ x.pl = X.parts.length := by
 cases h with
 | mk x bs xs ps hn hdl hbl hd hdc hds hpl hxl hpc hpm hps hP hs => exact ⟨rfl, hn, hdl, by rw [hdl]; exact hbl, hpl⟩
def PtM (W : World) (S : Nat → Prop) (pv : Value) (xs : List VR) (ps : List VT) : Prop := ∃ ao cap, pv = .slice ao ps.length cap ∧ xs.length = ps.length ∧ ps.length ≤ cap ∧ ps.length ≤ 5864062014634 ∧ (∀ i, i < ps.length → ∃ b off, ao = some ⟨b, off, none⟩ ∧ b < W.heap.size ∧ W.rangeAt b (off + i * 3) (vrv (gx xs i)).toList) ∧ ∀ i, i < ps.length → VtM W S (gx xs i) (gvt ps i)
theorem VtM.split {W : World} {S : Nat → Prop} {x : VR} {X : VT} (h : VtM W S x X) : ∃ xs, PtM W S (.slice x.pa x.pl x.pc) xs X.parts := by
 cases h with
 | mk x bs xs ps hn hdl hbl hd hdc hds hpl hxl hpc hpm hps hP hs =>
  refine ⟨xs, x.pa, x.pc, by rw [hpl]; rfl, hxl, hpc, hpm, fun i hi => ?_, hs⟩
  obtain ⟨b, off, e, h2⟩ := hP i hi
  exact ⟨b, off, e, (hps _ ((lv_pos (by rw [hpl]; exact Nat.lt_of_le_of_lt (Nat.zero_le i) hi)).trans e)).2, h2⟩
theorem PtM.blw {W V : World} {S : Nat → Prop} {pv : Value} {xs : List VR} {ps : List VT} (h : PtM W S pv xs ps) (hb : Below W.heap.size W V) : PtM V S pv xs ps := by
 obtain ⟨ao, cap, e, h1, h2, h3, h4, h5⟩ := h
 refine ⟨ao, cap, e, h1, h2, h3, fun i hi => ?_, fun i hi => (h5 i hi).blw hb⟩
 obtain ⟨b, off, q1, q2, q3⟩ := h4 i hi
 exact ⟨b, off, q1, Nat.lt_of_lt_of_le q2 hb.size, rangeS_keep2 q3 hb q2⟩
/-! What is wrong, on trees. utf: are bytes a text; flE: what is wrong with a float's bits. -/
section
variable (utf : List B → Bool) (flE : Nat → Nat → Int)
def plE8 (k : Int) (l m : Nat) (x : VT) : Int :=
 if k = 5 then wth (x.dat.length : Int) (l : Int) (m : Int)
 else if k = 6 then (if wth (x.dat.length : Int) (l : Int) (m : Int) ≠ 0 then wth (x.dat.length : Int) (l : Int) (m : Int) else if utf x.dat then 0 else 84)
 else if k = 7 then flE x.num m
 else if k = 4 then wth (x.num : Int) 0 1 else wth (x.num : Int) (l : Int) (m : Int)
def isB (k : Int) : Bool := k == 5 || k == 6
def frsT (f : VT → Option Flt3) : List VT → Option Flt3
 | [] => none
 | x :: xs => match f x with
  | some e => some e
  | none => frsT f xs
def ckN (n : Nat) (f : List VT → Int → Option Flt3) (x : VT) (deep : Int) : Option Flt3 := if x.num ≠ 0 ∨ 0 < x.dat.length then some ⟨deep, 0, 84⟩ else if x.parts.length ≠ n then some ⟨deep, 0, 81⟩ else f x.parts deep
def slN (no k : Int) (l m n : Nat) (f : List VT → Int → Option Flt3) (x : VT) (deep : Int) : Option Flt3 :=
 if k = 8 then ckN n f x (deep + 1)
 else if k = 9 then (if x.num ≠ 0 ∨ 0 < x.dat.length then some ⟨deep, no, 84⟩ else if wth (x.parts.length : Int) (l : Int) (m : Int) ≠ 0 then some ⟨deep, no, wth (x.parts.length : Int) (l : Int) (m : Int)⟩ else frsT (fun p => ckN n f p (deep + 1)) x.parts)
 else pck deep no (isB k) x.num x.dat.length x.parts.length (plE8 utf flE k l m x)
def chT : List Slt → List VT → Int → Option Flt3
 | .mk no k l m sub :: ts, x :: xs, deep => match slN utf flE no k l m sub.length (chT sub) x deep with
  | some f => some f
  | none => chT ts xs deep
 | _, _, _ => none
def ckT (ts : List Slt) (x : VT) (deep : Int) : Option Flt3 := ckN ts.length (chT utf flE ts) x deep
def slT (t : Slt) (x : VT) (deep : Int) : Option Flt3 := slN utf flE t.no t.kind t.least t.most t.sub.length (chT utf flE t.sub) x deep
theorem chT_cons (t : Slt) (ts : List Slt) (x : VT) (xs : List VT) (deep : Int) : chT utf flE (t :: ts) (x :: xs) deep = match slT utf flE t x deep with
 | some f => some f
 | none => chT utf flE ts xs deep := by
 cases t
 rw [chT]
 rfl
theorem chT_nil (xs : List VT) (deep : Int) : chT utf flE [] xs deep = none := by rw [chT]; intros; contradiction
theorem vdrop (xs : List VT) (k : Nat) (h : k < xs.length) : xs.drop k = gvt xs k :: xs.drop (k + 1) := by
 rw [List.drop_eq_getElem_cons h]
 simp [gvt, List.getD_eq_getElem?_getD, List.getElem?_eq_getElem h]
theorem chT_drop {ts : List Slt} {xs : List VT} {deep : Int} {k : Nat} (h1 : k < ts.length) (h2 : k < xs.length) : chT utf flE (ts.drop k) (xs.drop k) deep = match slT utf flE (gs ts k) (gvt xs k) deep with
 | some f => some f
 | none => chT utf flE (ts.drop (k + 1)) (xs.drop (k + 1)) deep := by
 rw [sdrop ts k h1, vdrop xs k h2, chT_cons]
theorem slT_msg {t : Slt} (h : t.kind = 8) (x : VT) (deep : Int) : slT utf flE t x deep = ckT utf flE t.sub x (deep + 1) := by unfold slT slN; rw [if_pos h]; rfl
theorem slT_lst {t : Slt} (h : t.kind = 9) (x : VT) (deep : Int) : slT utf flE t x deep = if x.num ≠ 0 ∨ 0 < x.dat.length then some ⟨deep, t.no, 84⟩ else if wth (x.parts.length : Int) (t.least : Int) (t.most : Int) ≠ 0 then some ⟨deep, t.no, wth (x.parts.length : Int) (t.least : Int) (t.most : Int)⟩ else frsT (fun p => ckT utf flE t.sub p (deep + 1)) x.parts := by
 unfold slT slN
 rw [if_neg (by omega), if_pos h]
 rfl
theorem slT_pl {t : Slt} (h8 : t.kind ≠ 8) (h9 : t.kind ≠ 9) (x : VT) (deep : Int) : slT utf flE t x deep = pck deep t.no (isB t.kind) x.num x.dat.length x.parts.length (plE8 utf flE t.kind t.least t.most x) := by
 unfold slT slN
 rw [if_neg h8, if_neg h9]
theorem frsT_drop (f : VT → Option Flt3) {xs : List VT} {k : Nat} (h : k < xs.length) : frsT f (xs.drop k) = match f (gvt xs k) with
 | some e => some e
 | none => frsT f (xs.drop (k + 1)) := by
 rw [vdrop xs k h, frsT]
end
def htT : List Slt → Int
 | [] => 0
 | .mk _ _ _ _ sub :: ts => max (htT sub + 1) (htT ts)
theorem htT_pos : ∀ ts, 0 ≤ htT ts
 | [] => by rw [htT]; omega
 | .mk _ _ _ _ sub :: ts => by rw [htT]; have := htT_pos ts; omega
theorem htT_sub : ∀ (ts : List Slt) (i : Nat), i < ts.length → htT (gs ts i).sub + 1 ≤ htT ts
 | [], _, h => by simp at h
 | .mk n k a b sub :: ts, 0, _ => by
  rw [htT]
  show htT sub + 1 ≤ _
  omega
 | .mk n k a b sub :: ts, i + 1, h => by
  have := htT_sub ts i (by simpa using h)
  rw [htT]
  show htT (gs ts i).sub + 1 ≤ _
  omega
end Go.Proofs.YtejcggjmbjmoeaaGreatDoor
namespace Go.Proofs.YtejcggjmbjmoeaaGreatDoor
set_option maxRecDepth 100000
open Go Go.RowKit Go.Sort
attribute [local go_sem] setCell_drewN alloc_drewN
set_option maxRecDepth 100000 in
set_option maxHeartbeats 4000000 in
theorem a_lfits (n l m : Int) (hn : 0 ≤ n ∧ n < 9223372036854775808) (y : Value) (w : World) : Calls Tryz.prog 128 #[.agg #[.int .u64 l, .int .u64 m, y], .int .i64 n] w fun e w' => e = .returned (.int .i64 (wth n l m)) ∧ Below w.heap.size w w' := by
 have cW := a_within n l m
 have hb : ∀ o, Below w.heap.size w (w.alloc o) := fun o => (Below.refl _ _).alloc (Nat.le_refl _) _
 have r0 := hp1_0 w (.cells #[.int .u64 l, .int .u64 m, y] 190)
 have c0 : (w.alloc (.cells #[.int .u64 l, .int .u64 m, y] 190)).cell? ⟨w.heap.size, 0, none⟩ = some (.int .u64 l) := by rw [cell_of_row _ _ _ _ _ _ r0]; rfl
 have c1 : (w.alloc (.cells #[.int .u64 l, .int .u64 m, y] 190)).cell? ⟨w.heap.size, 1, none⟩ = some (.int .u64 m) := by rw [cell_of_row _ _ _ _ _ _ r0]; rfl
 replace hb := hb (.cells #[.int .u64 l, .int .u64 m, y] 190)
 go_enter Tryz.func128, Tryz.ntmps128
 iterate 6 go_step
 generalize w.alloc (.cells #[.int .u64 l, .int .u64 m, y] 190) = w0 at *
 clear r0
 go_wp2_with (fail)
 refine (cW.at _).mono ?_
 rintro e_ w1 ⟨rfl, hb1⟩
 replace hb := Below.after hb hb1
 go_wp2
 go_ret
 exact ⟨rfl, hb⟩
set_option maxRecDepth 100000 in
set_option maxHeartbeats 4000000 in
theorem a_inner1 (x : VR) (deep : Int) (hd : -9223372036854775808 ≤ deep ∧ deep + 1 ≤ 9223372036854775807) (g : Nat) (so : Option Addr) (sn sc : Nat) (w : World) (F : Option Flt3) (hg : Bx w g #[.slice so sn sc])
 (hC : ∀ V, Below w.heap.size w V → Calls Tryz.prog 33 #[.slice so sn sc, .agg (vrv x), .int .i64 (deep + 1)] V fun e w' => Gup V.heap.size F e w' (fun v => v = .tuple #[]) ∧ Below V.heap.size V w') :
 Calls Tryz.prog 123 #[.agg (vrv x), .int .i64 deep, ptr g] w fun e w' => Gup w.heap.size F e w' (fun v => v = .tuple #[]) ∧ Below w.heap.size w w' := by
 obtain ⟨T, hg⟩ := hg
 have lg := lt_of_row hg
 obtain ⟨xn, xda, xdl, xdc, xpa, xpl, xpc⟩ := x
 unfold vrv vrw at *
 have hb : Below w.heap.size w (w.alloc (.cells #[.int .u64 (xn : Int), .slice xda xdl xdc, .slice xpa xpl xpc] 27)) := (Below.refl _ _).alloc (Nat.le_refl _) _
 have r0 := hp1_0 w (.cells #[.int .u64 (xn : Int), .slice xda xdl xdc, .slice xpa xpl xpc] 27)
 have rg := keep hb hg
 have cg := cell_of_row _ _ 0 _ _ _ rg
 have cF := hC _ hb
 unfold ptr
 clear hC rg
 go_enter Tryz.func123, Tryz.ntmps123
 iterate 6 go_step
 generalize w.alloc (.cells #[.int .u64 (xn : Int), .slice xda xdl xdc, .slice xpa xpl xpc] 27) = w0 at *
 go_wp2_with (first | (refine wpList_load_want rfl 27 _ rfl w.heap.size rfl 27 #[.int .u64 (xn : Int), .slice xda xdl xdc, .slice xpa xpl xpc] (0, 0) _ r0 Tryz.underlying27 rfl infoV ?_) | fail)
 refine cF.mono ?_
 rintro e_ w1 ⟨hG, hb1⟩
 have hsz := hb.size
 replace hb := Below.after hb hb1
 cases F with
 | none =>
  obtain ⟨v, rfl, rfl⟩ := hG
  go_wp2_with (fail)
  go_end0
  exact ⟨⟨_, rfl, rfl⟩, hb⟩
 | some f =>
  obtain ⟨q, rfl, h1, h2⟩ := hG
  go_wp2
  exact ⟨rfl, ⟨q, rfl, Nat.le_trans hsz h1, h2⟩, hb⟩
def lsE (deep no l m : Int) (X : VT) (F : Option Flt3) : Option Flt3 := if X.num ≠ 0 ∨ 0 < X.dat.length then some ⟨deep, no, 84⟩ else if wth (X.parts.length : Int) l m ≠ 0 then some ⟨deep, no, wth (X.parts.length : Int) l m⟩ else F
set_option maxRecDepth 100000 in
set_option maxHeartbeats 8000000 in
theorem a_listed1 {S : Nat → Prop} (x : VR) (X : VT) (deep no l m : Int) (hd : -9223372036854775808 ≤ deep ∧ deep + 1 ≤ 9223372036854775807) (g0 g1 g2 : Nat) (y : Value) (so : Option Addr) (sn sc : Nat) (w : World) (f : VT → Option Flt3) (hX : VtM w S x X) (h0 : Bx w g0 #[.int .i64 no]) (h1 : Bx w g1 #[.int .u64 l, .int .u64 m, y]) (h2 : Bx w g2 #[.slice so sn sc])
 (hC : ∀ V z Z, Below w.heap.size w V → VtM V S z Z → Calls Tryz.prog 33 #[.slice so sn sc, .agg (vrv z), .int .i64 (deep + 1)] V fun e w' => Gup V.heap.size (f Z) e w' (fun v => v = .tuple #[]) ∧ Below V.heap.size V w') :
 Calls Tryz.prog 127 #[.agg (vrv x), .int .i64 deep, ptr g0, ptr g1, ptr g2] w fun e w' => Gup w.heap.size (lsE deep no l m X (frsT f X.parts)) e w' (fun v => v = .tuple #[]) ∧ Below w.heap.size w w' := by
 obtain ⟨T0, h0⟩ := h0
 obtain ⟨T1, h1⟩ := h1
 obtain ⟨T2, h2⟩ := h2
 have l0 := lt_of_row h0
 have l1 := lt_of_row h1
 have l2 := lt_of_row h2
 obtain ⟨en, enb, ed, edb, ep⟩ := hX.num_eq
 obtain ⟨xs, hP⟩ := hX.split
 obtain ⟨R, hR⟩ : ∃ R, lsE deep no l m X (frsT f X.parts) = R := ⟨_, rfl⟩
 rw [hR]
 generalize hps : X.parts = ps at *
 obtain ⟨xn, xda, xdl, xdc, xpa, xpl, xpc⟩ := x
 simp only at en enb ed edb ep hP
 obtain ⟨ao, cap, e, hxl, hcap, hpm, hrow, hvt⟩ := hP
 injection e with e1 e2 e3
 subst e1 e2 e3
 have hb : Below w.heap.size w (w.alloc (.cells #[.int .u64 (xn : Int), .slice xda xdl xdc, .slice xpa ps.length xpc] 27)) := (Below.refl _ _).alloc (Nat.le_refl _) _
 have r0 := hp1_0 w (.cells #[.int .u64 (xn : Int), .slice xda xdl xdc, .slice xpa ps.length xpc] 27)
 have h0' := keep hb h0
 have h1' := keep hb h1
 have c0 := cell_of_row _ _ 0 _ _ _ h0'
 have d0 := cell_of_row _ _ 0 _ _ _ r0
 have d1 := cell_of_row _ _ 1 _ _ _ r0
 have d2 := cell_of_row _ _ 2 _ _ _ r0
 unfold vrv vrw ptr
 by_cases hbad : xn ≠ 0 ∨ 0 < xdl
 ·have eR : R = some ⟨deep, no, 84⟩ := by rw [← hR, lsE, if_pos (by rw [← en, ← ed]; exact hbad)]
  have cG := a_giveUp deep no 84
  replace eR := hide eR
  clear hC hrow hvt hX hR h1 h1' h2 hps en ed
  rcases Nat.eq_zero_or_pos xn with rfl | hnp
  ·have hq : decide ((xdl : Int) > 0) = true := by simp; omega
   go_enter Tryz.func127, Tryz.ntmps127
   iterate 6 go_step
   generalize w.alloc (.cells #[.int .u64 ((0 : Nat) : Int), .slice xda xdl xdc, .slice xpa ps.length xpc] 27) = w0 at *
   go_wp2_with (fail)
   refine (cG _).mono ?_
   rintro e_ w2 ⟨⟨q, rfl, hql, hqr⟩, hb2⟩
   have hsz := hb.size
   replace hb := Below.after hb hb2
   go_wp2
   rw [eR.out]
   exact ⟨rfl, ⟨q, rfl, Nat.le_trans hsz hql, hqr⟩, hb⟩
  ·have hq : ((xn : Int) == 0) = false := by simp; omega
   have hq2 : ¬ (xn : Int) = 0 := by omega
   go_enter Tryz.func127, Tryz.ntmps127
   iterate 6 go_step
   generalize w.alloc (.cells #[.int .u64 (xn : Int), .slice xda xdl xdc, .slice xpa ps.length xpc] 27) = w0 at *
   go_wp2_with (fail)
   refine (cG _).mono ?_
   rintro e_ w2 ⟨⟨q, rfl, hql, hqr⟩, hb2⟩
   have hsz := hb.size
   replace hb := Below.after hb hb2
   go_wp2
   rw [eR.out]
   exact ⟨rfl, ⟨q, rfl, Nat.le_trans hsz hql, hqr⟩, hb⟩
 ·obtain ⟨E, hE⟩ : ∃ E, wth (ps.length : Int) l m = E := ⟨_, rfl⟩
  have cL := a_lfits (ps.length : Int) l m (by omega) y
  rw [hE] at cL
  have infoLs : (Tryz.prog.info? 190).map (·.size) = some 3 := by kernel_rfl
  have eR0 : R = if E ≠ 0 then some ⟨deep, no, E⟩ else frsT f ps := by rw [← hR, lsE, if_neg (by rw [← en, ← ed]; omega), hps, hE]
  clear hR en ed hX
  obtain rfl : xn = 0 := by omega
  obtain rfl : xdl = 0 := by omega
  clear hbad
  by_cases hz : E = 0
  ·have eR : R = frsT f (ps.drop 0) := by rw [eR0, if_neg (by omega)]; rfl
   subst hz
   replace eR := hide eR
   have H2 := hide h2
   have HR := hide hrow
   have HV := hide hvt
   replace hE := hide hE
   clear eR0 h0 h1 h2 hrow hvt c0 h0' hps
   go_enter Tryz.func127, Tryz.ntmps127
   iterate 6 go_step
   generalize w.alloc (.cells #[.int .u64 ((0 : Nat) : Int), .slice xda 0 xdc, .slice xpa ps.length xpc] 27) = w0 at *
   go_wp2_with (first | (refine wpList_load_want rfl 190 _ rfl g1 rfl T1 #[.int .u64 l, .int .u64 m, y] (0, 0) _ h1' Tryz.underlying190 rfl infoLs ?_) | fail)
   refine (cL _).mono ?_
   rintro e_ w1 ⟨rfl, hb1⟩
   replace r0 := keep hb1 r0
   have d2' := cell_of_row _ _ 2 _ _ _ r0
   replace hb := Below.after hb hb1
   clear d0 d1 d2 h1' cL hb1
   go_wp2_with (fail)
   go_loopw [36, 9] (fun i _ wr => ∃ k : Nat, k ≤ ps.length ∧ i = .int .i64 k ∧ R = frsT f (ps.drop k) ∧ Below w.heap.size w wr) (fun i _ _ => ps.length - (intOf i).toNat)
   case atStart => exact ⟨0, by omega, rfl, eR.out, hb⟩
   case round =>
    clear r0 hb eR d2'
    obtain ⟨k, hk, rfl, eR, hb⟩ := hrel
    by_cases hlt : k < ps.length
    ·have hd2 : decide ((k : Int) < (ps.length : Int)) = true := by simp; omega
     obtain ⟨b, off, hxe, hbl, hra⟩ := HR.out k hlt
     subst hxe
     have hvz := (HV.out k hlt).blw hb
     have hpw := rangeS_keep2 hra hb hbl
     rw [frsT_drop f hlt] at eR
     have hcc := fun V hV (hz : VtM V S (gx xs k) (gvt ps k)) => hC V _ _ hV hz
     obtain ⟨Fk, hFk⟩ : ∃ Fk, f (gvt ps k) = Fk := ⟨_, rfl⟩
     rw [hFk] at eR hcc
     clear hFk hra HR HV hC
     generalize gvt ps k = Z at *
     generalize gx xs k = z at *
     obtain ⟨zn, zda, zdl, zdc, zpa, zpl, zpc⟩ := z
     unfold vrv vrw at *
     have hba : Below wr.heap.size wr (wr.alloc (.cells #[.int .u64 0, .slice none 0 0, .slice none 0 0] 27)) := (Below.refl _ _).alloc (Nat.le_refl _) _
     have rS := hp1_0 wr (.cells #[.int .u64 0, .slice none 0 0, .slice none 0 0] 27)
     have hbb := below_setRow (g := wr.heap.size) hba (Nat.le_refl _) #[.int .u64 (zn : Int), .slice zda zdl zdc, .slice zpa zpl zpc]
     have rS2 := setRow_heap _ wr.heap.size _ #[.int .u64 (zn : Int), .slice zda zdl zdc, .slice zpa zpl zpc] _ _ rS
     have hvz2 := hvz.blw hbb
     have hbw := Below.after hb hbb
     have cg2 := cell_of_row _ _ 0 _ _ _ (keep hbw H2.out)
     have hone : (#[.int .u64 (zn : Int), .slice zda zdl zdc, .slice zpa zpl zpc] : Array Value).all (·.oneCell') = true := by simp [Value.oneCell']
     have A1 := hide hvz2
     have A2 := hide hbw
     have A3 := hide rS2
     have A4 := hide hcc
     have A5 := hide eR
     have A6 := hide cg2
     clear hvz hvz2 hbw rS2 hcc eR cg2 hba hbb hb
     go_wp2_with (first | (refine wpList_load_mid rfl 27 _ rfl b (off + k * 3) rfl _ _ hpw Tryz.underlying27 rfl infoV ?_) | (refine wpList_store_row rfl 27 _ _ rfl wr.heap.size #[.int .u64 (zn : Int), .slice zda zdl zdc, .slice zpa zpl zpc] rfl rfl 27 _ rS infoV rfl hone ?_; refine wpList_stay ?_) | fail)
     unfold WpStay
     generalize (wr.alloc (.cells #[.int .u64 0, .slice none 0 0, .slice none 0 0] 27)).setRow wr.heap.size #[.int .u64 (zn : Int), .slice zda zdl zdc, .slice zpa zpl zpc] = w2 at *
     have cg2 := A6.out
     have rS2 := A3.out
     clear rS A6 A3 hpw
     go_wp2_with (first | (refine wpList_load_want rfl 27 _ rfl wr.heap.size rfl 27 #[.int .u64 (zn : Int), .slice zda zdl zdc, .slice zpa zpl zpc] (0, 0) _ rS2 Tryz.underlying27 rfl infoV ?_) | fail)
     refine (A4.out _ A2.out A1.out).mono ?_
     rintro e_ w3 ⟨hGk, hb3⟩
     have hsz := A2.out.size
     have hb := Below.after A2.out hb3
     clear A1 A2 A4 hb3 cg2 rS2
     cases Fk with
     | none =>
      obtain ⟨v, rfl, rfl⟩ := hGk
      go_wp2_with (fail)
      refine ⟨⟨k + 1, by omega, by go_num, A5.out, hb⟩, ?_⟩
      simp [intOf]; omega
     | some f' =>
      obtain ⟨q, rfl, h1, h2⟩ := hGk
      go_wp2
      rw [A5.out]
      exact ⟨rfl, ⟨q, rfl, Nat.le_trans hsz h1, h2⟩, hb⟩
    ·have hd2 : decide ((k : Int) < (ps.length : Int)) = false := by simp; omega
     obtain rfl : k = ps.length := by omega
     rw [List.drop_length, frsT] at eR
     replace eR := hide eR
     clear HR HV hC
     go_wp2_with (fail)
     go_end0
     rw [eR.out]
     exact ⟨⟨_, rfl, rfl⟩, hb⟩
  ·have eR : R = some ⟨deep, no, E⟩ := by rw [eR0, if_pos hz]
   have cG := a_giveUp deep no E
   have hz2 : (E == 0) = false := by simpa using hz
   replace eR := hide eR
   clear hC hrow hvt eR0 h1 h2 hps c0
   go_enter Tryz.func127, Tryz.ntmps127
   iterate 6 go_step
   generalize w.alloc (.cells #[.int .u64 ((0 : Nat) : Int), .slice xda 0 xdc, .slice xpa ps.length xpc] 27) = w0 at *
   go_wp2_with (first | (refine wpList_load_want rfl 190 _ rfl g1 rfl T1 #[.int .u64 l, .int .u64 m, y] (0, 0) _ h1' Tryz.underlying190 rfl infoLs ?_) | fail)
   refine (cL _).mono ?_
   rintro e_ w1 ⟨rfl, hb1⟩
   have c0 := cell_of_row _ _ 0 _ _ _ (keep hb1 h0')
   replace hb := Below.after hb hb1
   clear d0 d1 d2 h1' cL hb1 h0' r0
   go_wp2_with (fail)
   refine (cG _).mono ?_
   rintro e_ w2 ⟨⟨q, rfl, hql, hqr⟩, hb2⟩
   have hsz := hb.size
   replace hb := Below.after hb hb2
   go_wp2
   rw [eR.out]
   exact ⟨rfl, ⟨q, rfl, Nat.le_trans hsz hql, hqr⟩, hb⟩
end Go.Proofs.YtejcggjmbjmoeaaGreatDoor

