import Derived.Test.YtjofbnilhkmpeaaDoorProg
import Derived.WalkKit
import Derived.WalkSpells
import Derived.WalkLawsBesides
import Derived.Lib.QuietBelow
import Derived.BigQuiet
import Derived.OrdersHeld
import Derived.Deep.RegionHeld3
import Derived.OwnWalk
import Derived.Deep.CutRange
import Derived.Test.YtjofbnilhkmpeaaDoorKa
import Derived.Test.YtjofbnilhkmpeaaDoorRtd
namespace Go.Proofs.YtjofbnilhkmpeaaDoor
set_option maxRecDepth 100000
open Go Go.RowKit Go.Sort Go.ChangeMaps Go.MapKept
attribute [local go_sem] setCell_drewN alloc_drewN

/-- A state's row, by its parts. -/
structure Rw (A : Array Value) (s : Stt) (u : Value) : Prop where
  root : A.extract 3 (3 + (irow .u8 s.root).size) = irow .u8 s.root
  opr : A.extract 35 (35 + (irow .u8 s.opr).size) = irow .u8 s.opr
  opu : A.extract 67 (67 + (irow .u8 s.opu).size) = irow .u8 s.opu
  peer : A.extract 99 (99 + (irow .u8 s.peer).size) = irow .u8 s.peer
  snd : A.extract 134 (134 + (irow .u8 s.snd).size) = irow .u8 s.snd
  shd : A.extract 166 (166 + (irow .u8 s.shd).size) = irow .u8 s.shd
  nsd : A.extract 198 (198 + (irow .u8 s.nsd).size) = irow .u8 s.nsd
  rcv : A.extract 233 (233 + (irow .u8 s.rcv).size) = irow .u8 s.rcv
  rhd : A.extract 265 (265 + (irow .u8 s.rhd).size) = irow .u8 s.rhd
  nrv : A.extract 297 (297 + (irow .u8 s.nrv).size) = irow .u8 s.nrv
  cv : A[0]? = some (.int .i64 s.cv)
  ck : A[1]? = some (.int .i64 s.ck)
  cs : A[2]? = some (.int .i64 s.cs)
  ho : A[131]? = some (.bool s.ho)
  hp : A[132]? = some (.bool s.hp)
  tu : A[133]? = some (.bool s.tu)
  sn : A[230]? = some (.int .u32 s.sn)
  pv : A[231]? = some (.int .u32 s.pv)
  hs : A[232]? = some (.bool s.hs)
  rn : A[329]? = some (.int .u32 s.rn)
  hr : A[330]? = some (.bool s.hr)
  sp : A[331]? = some (u)
  cfg : A.extract 0 (0 + (cfrow s.cv s.ck s.cs).size) = cfrow s.cv s.ck s.cs
  own : A.extract 35 (35 + (prow s.opr s.opu).size) = prow s.opr s.opu
theorem rw_of (s : Stt) (_hs : s.ok) (u : Value) (h : Stt.ok { s with sp := u }) : Rw (strow { s with sp := u }) s u := ⟨st_root h [], st_opr h [], st_opu h [], st_peer h [], st_snd h [], st_shd h [], st_nsd h [], st_rcv h [], st_rhd h [], st_nrv h [], st_cv h [], st_ck h [], st_cs h [], st_ho h [], st_hp h [], st_tu h [], st_sn h [], st_pv h [], st_hs h [], st_rn h [], st_hr h [], st_sp h [], st_cfg _ [], st_own h []⟩
set_option maxRecDepth 100000 in
set_option maxHeartbeats 4000000 in
theorem l_statesA (s : Stt) (hs : s.ok) (A B : Array Value) (ua ub : Value) (hA : Rw A s ua) (hB : Rw B s ub) (l : List Sr) (w : World) (hua : SpL w ua l) (hub : SpL w ub l) : Calls Tryd.prog 6 #[.agg A, .agg B] w fun e w' => e = .returned (.bool true) ∧ Below w.heap.size w w' := by
  have R0 := hp2_0 w (.cells A 38) (.cells B 38)
  have R1 := hp2_1 w (.cells A 38) (.cells B 38)
  have hw : Below w.heap.size w ((w.alloc (.cells A 38)).alloc (.cells B 38)) := ((Below.refl _ _).alloc (Nat.le_refl _) _).alloc (by simp) _
  have a_sp : World.cell? _ ⟨w.heap.size, 331, none⟩ = some (ua) := (cell_of_row _ _ _ _ _ _ R0).trans hA.sp
  have b_sp : World.cell? _ ⟨w.heap.size + 1, 331, none⟩ = some (ub) := (cell_of_row _ _ _ _ _ _ R1).trans hB.sp
  have cS := l_same l l ((w.alloc (.cells A 38)).alloc (.cells B 38)) _ _ (hua.keep hw) (hub.keep hw)
  have hd : decide (l = l) = true := by simp
  rw [hd] at cS
  clear hd
  go_enter Tryd.func6, Tryd.ntmps6
  go_wp2_with (first | (refine wpList_box rfl 38 _ rfl _ rfl (bStA _) ?_) | fail)
  refine cS.mono ?_
  rintro e_ w1 ⟨rfl, hbb⟩
  replace R0 := keep hbb R0
  replace R1 := keep hbb R1
  replace hw := Below.after hw hbb
  clear hbb cS a_sp b_sp hua hub
  have e_c : ∀ W, (Op.equalIn 10000 27 (.agg (cfrow s.cv s.ck s.cs)) (.agg (cfrow s.cv s.ck s.cs))).run Tryd.prog W = .ok true W := fun W => by have := eq_cfg s.cv s.ck s.cs s.cv s.ck s.cs W; simpa using this
  have e_p : ∀ W, (Op.equalIn 10000 25 (.agg (prow s.opr s.opu)) (.agg (prow s.opr s.opu))).run Tryd.prog W = .ok true W := fun W => by have := eq_pair s.opr s.opu s.opr s.opu hs.opr hs.opu hs.opr hs.opu W; simpa using this
  have e_root : ∀ W, (Op.equalIn 10000 23 (.agg (irow .u8 s.root)) (.agg (irow .u8 s.root))).run Tryd.prog W = .ok true W := fun W => by have := eq_k s.root s.root hs.root hs.root W; simpa using this
  have e_opr : ∀ W, (Op.equalIn 10000 23 (.agg (irow .u8 s.opr)) (.agg (irow .u8 s.opr))).run Tryd.prog W = .ok true W := fun W => by have := eq_k s.opr s.opr hs.opr hs.opr W; simpa using this
  have e_opu : ∀ W, (Op.equalIn 10000 23 (.agg (irow .u8 s.opu)) (.agg (irow .u8 s.opu))).run Tryd.prog W = .ok true W := fun W => by have := eq_k s.opu s.opu hs.opu hs.opu W; simpa using this
  have e_peer : ∀ W, (Op.equalIn 10000 23 (.agg (irow .u8 s.peer)) (.agg (irow .u8 s.peer))).run Tryd.prog W = .ok true W := fun W => by have := eq_k s.peer s.peer hs.peer hs.peer W; simpa using this
  have e_snd : ∀ W, (Op.equalIn 10000 23 (.agg (irow .u8 s.snd)) (.agg (irow .u8 s.snd))).run Tryd.prog W = .ok true W := fun W => by have := eq_k s.snd s.snd hs.snd hs.snd W; simpa using this
  have e_shd : ∀ W, (Op.equalIn 10000 23 (.agg (irow .u8 s.shd)) (.agg (irow .u8 s.shd))).run Tryd.prog W = .ok true W := fun W => by have := eq_k s.shd s.shd hs.shd hs.shd W; simpa using this
  have e_nsd : ∀ W, (Op.equalIn 10000 23 (.agg (irow .u8 s.nsd)) (.agg (irow .u8 s.nsd))).run Tryd.prog W = .ok true W := fun W => by have := eq_k s.nsd s.nsd hs.nsd hs.nsd W; simpa using this
  have e_rcv : ∀ W, (Op.equalIn 10000 23 (.agg (irow .u8 s.rcv)) (.agg (irow .u8 s.rcv))).run Tryd.prog W = .ok true W := fun W => by have := eq_k s.rcv s.rcv hs.rcv hs.rcv W; simpa using this
  have e_rhd : ∀ W, (Op.equalIn 10000 23 (.agg (irow .u8 s.rhd)) (.agg (irow .u8 s.rhd))).run Tryd.prog W = .ok true W := fun W => by have := eq_k s.rhd s.rhd hs.rhd hs.rhd W; simpa using this
  have e_nrv : ∀ W, (Op.equalIn 10000 23 (.agg (irow .u8 s.nrv)) (.agg (irow .u8 s.nrv))).run Tryd.prog W = .ok true W := fun W => by have := eq_k s.nrv s.nrv hs.nrv hs.nrv W; simpa using this
  have a_ho : World.cell? w1 ⟨w.heap.size, 131, none⟩ = some (.bool s.ho) := (cell_of_row _ _ _ _ _ _ R0).trans hA.ho
  have b_ho : World.cell? w1 ⟨w.heap.size + 1, 131, none⟩ = some (.bool s.ho) := (cell_of_row _ _ _ _ _ _ R1).trans hB.ho
  have a_hp : World.cell? w1 ⟨w.heap.size, 132, none⟩ = some (.bool s.hp) := (cell_of_row _ _ _ _ _ _ R0).trans hA.hp
  have b_hp : World.cell? w1 ⟨w.heap.size + 1, 132, none⟩ = some (.bool s.hp) := (cell_of_row _ _ _ _ _ _ R1).trans hB.hp
  have a_tu : World.cell? w1 ⟨w.heap.size, 133, none⟩ = some (.bool s.tu) := (cell_of_row _ _ _ _ _ _ R0).trans hA.tu
  have b_tu : World.cell? w1 ⟨w.heap.size + 1, 133, none⟩ = some (.bool s.tu) := (cell_of_row _ _ _ _ _ _ R1).trans hB.tu
  have a_hs : World.cell? w1 ⟨w.heap.size, 232, none⟩ = some (.bool s.hs) := (cell_of_row _ _ _ _ _ _ R0).trans hA.hs
  have b_hs : World.cell? w1 ⟨w.heap.size + 1, 232, none⟩ = some (.bool s.hs) := (cell_of_row _ _ _ _ _ _ R1).trans hB.hs
  have a_hr : World.cell? w1 ⟨w.heap.size, 330, none⟩ = some (.bool s.hr) := (cell_of_row _ _ _ _ _ _ R0).trans hA.hr
  have b_hr : World.cell? w1 ⟨w.heap.size + 1, 330, none⟩ = some (.bool s.hr) := (cell_of_row _ _ _ _ _ _ R1).trans hB.hr
  have a_sn : World.cell? w1 ⟨w.heap.size, 230, none⟩ = some (.int .u32 s.sn) := (cell_of_row _ _ _ _ _ _ R0).trans hA.sn
  have b_sn : World.cell? w1 ⟨w.heap.size + 1, 230, none⟩ = some (.int .u32 s.sn) := (cell_of_row _ _ _ _ _ _ R1).trans hB.sn
  have a_pv : World.cell? w1 ⟨w.heap.size, 231, none⟩ = some (.int .u32 s.pv) := (cell_of_row _ _ _ _ _ _ R0).trans hA.pv
  have b_pv : World.cell? w1 ⟨w.heap.size + 1, 231, none⟩ = some (.int .u32 s.pv) := (cell_of_row _ _ _ _ _ _ R1).trans hB.pv
  have a_rn : World.cell? w1 ⟨w.heap.size, 329, none⟩ = some (.int .u32 s.rn) := (cell_of_row _ _ _ _ _ _ R0).trans hA.rn
  have b_rn : World.cell? w1 ⟨w.heap.size + 1, 329, none⟩ = some (.int .u32 s.rn) := (cell_of_row _ _ _ _ _ _ R1).trans hB.rn
  dsimp only
  repeat ((fail_if_success (refine wpList_load_part rfl 27 _ rfl (w.heap.size) 0 rfl 38 A (0, 0) (cfrow s.cv s.ck s.cs) _ R0 hA.cfg Tryd.underlying27 rfl infoCf ?_)); first | go_skip | go_step)
  refine wpList_load_part rfl 27 _ rfl (w.heap.size) 0 rfl 38 A (0, 0) (cfrow s.cv s.ck s.cs) _ R0 hA.cfg Tryd.underlying27 rfl infoCf ?_
  repeat ((fail_if_success (refine wpList_load_part rfl 27 _ rfl (w.heap.size + 1) 0 rfl 38 B (0, 0) (cfrow s.cv s.ck s.cs) _ R1 hB.cfg Tryd.underlying27 rfl infoCf ?_)); first | go_skip | go_step)
  refine wpList_load_part rfl 27 _ rfl (w.heap.size + 1) 0 rfl 38 B (0, 0) (cfrow s.cv s.ck s.cs) _ R1 hB.cfg Tryd.underlying27 rfl infoCf ?_
  repeat ((fail_if_success (refine wpList_load_part rfl 23 _ rfl (w.heap.size) 3 rfl 38 A (0, 0) (irow .u8 s.root) _ R0 hA.root Tryd.underlying23 rfl (infok8 _ hs.root) ?_)); first | go_skip | go_step)
  refine wpList_load_part rfl 23 _ rfl (w.heap.size) 3 rfl 38 A (0, 0) (irow .u8 s.root) _ R0 hA.root Tryd.underlying23 rfl (infok8 _ hs.root) ?_
  repeat ((fail_if_success (refine wpList_load_part rfl 23 _ rfl (w.heap.size + 1) 3 rfl 38 B (0, 0) (irow .u8 s.root) _ R1 hB.root Tryd.underlying23 rfl (infok8 _ hs.root) ?_)); first | go_skip | go_step)
  refine wpList_load_part rfl 23 _ rfl (w.heap.size + 1) 3 rfl 38 B (0, 0) (irow .u8 s.root) _ R1 hB.root Tryd.underlying23 rfl (infok8 _ hs.root) ?_
  repeat ((fail_if_success (refine wpList_load_part rfl 25 _ rfl (w.heap.size) 35 rfl 38 A (0, 0) (prow s.opr s.opu) _ R0 hA.own Tryd.underlying25 rfl (infoPr hs.opr hs.opu) ?_)); first | go_skip | go_step)
  refine wpList_load_part rfl 25 _ rfl (w.heap.size) 35 rfl 38 A (0, 0) (prow s.opr s.opu) _ R0 hA.own Tryd.underlying25 rfl (infoPr hs.opr hs.opu) ?_
  repeat ((fail_if_success (refine wpList_load_part rfl 25 _ rfl (w.heap.size + 1) 35 rfl 38 B (0, 0) (prow s.opr s.opu) _ R1 hB.own Tryd.underlying25 rfl (infoPr hs.opr hs.opu) ?_)); first | go_skip | go_step)
  refine wpList_load_part rfl 25 _ rfl (w.heap.size + 1) 35 rfl 38 B (0, 0) (prow s.opr s.opu) _ R1 hB.own Tryd.underlying25 rfl (infoPr hs.opr hs.opu) ?_
  repeat ((fail_if_success (refine wpList_load_part rfl 23 _ rfl (w.heap.size) 99 rfl 38 A (0, 0) (irow .u8 s.peer) _ R0 hA.peer Tryd.underlying23 rfl (infok8 _ hs.peer) ?_)); first | go_skip | go_step)
  refine wpList_load_part rfl 23 _ rfl (w.heap.size) 99 rfl 38 A (0, 0) (irow .u8 s.peer) _ R0 hA.peer Tryd.underlying23 rfl (infok8 _ hs.peer) ?_
  repeat ((fail_if_success (refine wpList_load_part rfl 23 _ rfl (w.heap.size + 1) 99 rfl 38 B (0, 0) (irow .u8 s.peer) _ R1 hB.peer Tryd.underlying23 rfl (infok8 _ hs.peer) ?_)); first | go_skip | go_step)
  refine wpList_load_part rfl 23 _ rfl (w.heap.size + 1) 99 rfl 38 B (0, 0) (irow .u8 s.peer) _ R1 hB.peer Tryd.underlying23 rfl (infok8 _ hs.peer) ?_
  repeat ((fail_if_success (refine wpList_load_part rfl 23 _ rfl (w.heap.size) 134 rfl 38 A (0, 0) (irow .u8 s.snd) _ R0 hA.snd Tryd.underlying23 rfl (infok8 _ hs.snd) ?_)); first | go_skip | go_step)
  refine wpList_load_part rfl 23 _ rfl (w.heap.size) 134 rfl 38 A (0, 0) (irow .u8 s.snd) _ R0 hA.snd Tryd.underlying23 rfl (infok8 _ hs.snd) ?_
  repeat ((fail_if_success (refine wpList_load_part rfl 23 _ rfl (w.heap.size + 1) 134 rfl 38 B (0, 0) (irow .u8 s.snd) _ R1 hB.snd Tryd.underlying23 rfl (infok8 _ hs.snd) ?_)); first | go_skip | go_step)
  refine wpList_load_part rfl 23 _ rfl (w.heap.size + 1) 134 rfl 38 B (0, 0) (irow .u8 s.snd) _ R1 hB.snd Tryd.underlying23 rfl (infok8 _ hs.snd) ?_
  repeat ((fail_if_success (refine wpList_load_part rfl 23 _ rfl (w.heap.size) 166 rfl 38 A (0, 0) (irow .u8 s.shd) _ R0 hA.shd Tryd.underlying23 rfl (infok8 _ hs.shd) ?_)); first | go_skip | go_step)
  refine wpList_load_part rfl 23 _ rfl (w.heap.size) 166 rfl 38 A (0, 0) (irow .u8 s.shd) _ R0 hA.shd Tryd.underlying23 rfl (infok8 _ hs.shd) ?_
  repeat ((fail_if_success (refine wpList_load_part rfl 23 _ rfl (w.heap.size + 1) 166 rfl 38 B (0, 0) (irow .u8 s.shd) _ R1 hB.shd Tryd.underlying23 rfl (infok8 _ hs.shd) ?_)); first | go_skip | go_step)
  refine wpList_load_part rfl 23 _ rfl (w.heap.size + 1) 166 rfl 38 B (0, 0) (irow .u8 s.shd) _ R1 hB.shd Tryd.underlying23 rfl (infok8 _ hs.shd) ?_
  repeat ((fail_if_success (refine wpList_load_part rfl 23 _ rfl (w.heap.size) 198 rfl 38 A (0, 0) (irow .u8 s.nsd) _ R0 hA.nsd Tryd.underlying23 rfl (infok8 _ hs.nsd) ?_)); first | go_skip | go_step)
  refine wpList_load_part rfl 23 _ rfl (w.heap.size) 198 rfl 38 A (0, 0) (irow .u8 s.nsd) _ R0 hA.nsd Tryd.underlying23 rfl (infok8 _ hs.nsd) ?_
  repeat ((fail_if_success (refine wpList_load_part rfl 23 _ rfl (w.heap.size + 1) 198 rfl 38 B (0, 0) (irow .u8 s.nsd) _ R1 hB.nsd Tryd.underlying23 rfl (infok8 _ hs.nsd) ?_)); first | go_skip | go_step)
  refine wpList_load_part rfl 23 _ rfl (w.heap.size + 1) 198 rfl 38 B (0, 0) (irow .u8 s.nsd) _ R1 hB.nsd Tryd.underlying23 rfl (infok8 _ hs.nsd) ?_
  repeat ((fail_if_success (refine wpList_load_part rfl 23 _ rfl (w.heap.size) 233 rfl 38 A (0, 0) (irow .u8 s.rcv) _ R0 hA.rcv Tryd.underlying23 rfl (infok8 _ hs.rcv) ?_)); first | go_skip | go_step)
  refine wpList_load_part rfl 23 _ rfl (w.heap.size) 233 rfl 38 A (0, 0) (irow .u8 s.rcv) _ R0 hA.rcv Tryd.underlying23 rfl (infok8 _ hs.rcv) ?_
  repeat ((fail_if_success (refine wpList_load_part rfl 23 _ rfl (w.heap.size + 1) 233 rfl 38 B (0, 0) (irow .u8 s.rcv) _ R1 hB.rcv Tryd.underlying23 rfl (infok8 _ hs.rcv) ?_)); first | go_skip | go_step)
  refine wpList_load_part rfl 23 _ rfl (w.heap.size + 1) 233 rfl 38 B (0, 0) (irow .u8 s.rcv) _ R1 hB.rcv Tryd.underlying23 rfl (infok8 _ hs.rcv) ?_
  repeat ((fail_if_success (refine wpList_load_part rfl 23 _ rfl (w.heap.size) 265 rfl 38 A (0, 0) (irow .u8 s.rhd) _ R0 hA.rhd Tryd.underlying23 rfl (infok8 _ hs.rhd) ?_)); first | go_skip | go_step)
  refine wpList_load_part rfl 23 _ rfl (w.heap.size) 265 rfl 38 A (0, 0) (irow .u8 s.rhd) _ R0 hA.rhd Tryd.underlying23 rfl (infok8 _ hs.rhd) ?_
  repeat ((fail_if_success (refine wpList_load_part rfl 23 _ rfl (w.heap.size + 1) 265 rfl 38 B (0, 0) (irow .u8 s.rhd) _ R1 hB.rhd Tryd.underlying23 rfl (infok8 _ hs.rhd) ?_)); first | go_skip | go_step)
  refine wpList_load_part rfl 23 _ rfl (w.heap.size + 1) 265 rfl 38 B (0, 0) (irow .u8 s.rhd) _ R1 hB.rhd Tryd.underlying23 rfl (infok8 _ hs.rhd) ?_
  repeat ((fail_if_success (refine wpList_load_part rfl 23 _ rfl (w.heap.size) 297 rfl 38 A (0, 0) (irow .u8 s.nrv) _ R0 hA.nrv Tryd.underlying23 rfl (infok8 _ hs.nrv) ?_)); first | go_skip | go_step)
  refine wpList_load_part rfl 23 _ rfl (w.heap.size) 297 rfl 38 A (0, 0) (irow .u8 s.nrv) _ R0 hA.nrv Tryd.underlying23 rfl (infok8 _ hs.nrv) ?_
  repeat ((fail_if_success (refine wpList_load_part rfl 23 _ rfl (w.heap.size + 1) 297 rfl 38 B (0, 0) (irow .u8 s.nrv) _ R1 hB.nrv Tryd.underlying23 rfl (infok8 _ hs.nrv) ?_)); first | go_skip | go_step)
  refine wpList_load_part rfl 23 _ rfl (w.heap.size + 1) 297 rfl 38 B (0, 0) (irow .u8 s.nrv) _ R1 hB.nrv Tryd.underlying23 rfl (infok8 _ hs.nrv) ?_
  repeat (first | go_skip | go_step)
  go_ret
  exact ⟨rfl, hw⟩
theorem l_states (s : Stt) (hs : s.ok) (ua ub : Value) (l : List Sr) (w : World) (hua : SpL w ua l) (hub : SpL w ub l) : Calls Tryd.prog 6 #[.agg (strow { s with sp := ua }), .agg (strow { s with sp := ub })] w fun e w' => e = .returned (.bool true) ∧ Below w.heap.size w w' :=
  l_statesA s hs _ _ ua ub (rw_of s hs ua (hs.put (spl_oneC hua))) (rw_of s hs ub (hs.put (spl_oneC hub))) l w hua hub

end Go.Proofs.YtjofbnilhkmpeaaDoor
