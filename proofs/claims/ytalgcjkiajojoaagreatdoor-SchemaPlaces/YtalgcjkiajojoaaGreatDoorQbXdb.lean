import Derived.Test.YtalgcjkiajojoaaGreatDoorProg
import Derived.WalkKit
import Derived.WalkSpells
import Derived.WalkLawsBesides
import Derived.Lib.QuietBelow
import Derived.Laws.BitsAllLaws
import Derived.BigQuiet
import Derived.WalkMore
import Derived.Test.YtalgcjkiajojoaaGreatDoorQbOpen
import Derived.OrdersHeld
import Derived.Deep.RegionHeld3
import Derived.RangeFuncNested
import Derived.RangeFuncBound
import Derived.RangeFuncCalls
import Derived.RangeFuncLeaves
import Derived.Shelf.Abstract
import Derived.Shelf.RegionOpen
import Derived.OwnWalkIn
import Derived.TacticsInMore
import Derived.LoopNIn
import Derived.LoopIn
import Derived.Test.YtalgcjkiajojoaaGreatDoorQbWn
namespace Go.Proofs.YtalgcjkiajojoaaGreatDoor
set_option maxRecDepth 100000
open Go Go.RowKit Go.Sort
attribute [local go_sem] setCell_drewN alloc_drewN
def WpStay (p : Prop) : Prop := p
theorem wpList_stay {P : Program} {ops : Array Oper} {rest : List Oper} {a : Act} {w : World} {Q : Exit → Act → World → Prop} (h : WpStay (wpList P ops Q rest a w)) : wpList P ops Q rest a w := h
theorem own_other {W : World} {b n g j : Nat} {v u : Value} {xs : List Value} (h : W.ownsRow b 5 1 v n xs) (hg : g < b) : (W.setCell ⟨g, j, none⟩ u).ownsRow b 5 1 v n xs := by
 obtain ⟨h1, h2 | ⟨g', cap, cur, rfl, hb, hg', h3⟩⟩ := h
 ·exact ⟨h1, .inl h2⟩
 ·exact ⟨h1, .inr ⟨g', cap, cur, rfl, hb, heap_other hg' (by omega), h3⟩⟩
def whl (d : List B) : Nat → Nat → Int → Nat → List (Nat × Fd) × Option (Nat × Int)
 | 0, _, _, _ => ([], none)
 | k + 1, p, last, c =>
  if p < d.length then
   match rh (d.drop p) last c with
   | .er e => ([], some (p, e))
   | .ok no ty n => match rv (d.drop (p + n)) ty with
    | .er e => ([], some (p + n, e))
    | .ok num dat m => ((p, ⟨no, ty, num, dat⟩) :: (whl d k (p + n + m) no (c + 1)).1, (whl d k (p + n + m) no (c + 1)).2)
  else ([], none)
theorem rh_ok {l : List B} {last : Int} {c : Nat} {no ty : Int} {n : Nat} (h : rh l last c = .ok no ty n) : 0 < n ∧ n ≤ l.length ∧ c ≠ 64 ∧ known ty ∧ last < no ∧ no ≤ 536870911 ∧ 0 ≤ no := by
 unfold rh at h
 cases hr : rd 0 l with
 | er e => rw [hr] at h; cases h
 | ok v m =>
  rw [hr] at h
  simp only at h
  have hl := rd0_len hr
  by_cases h1 : c = 64
  ·rw [if_pos h1] at h; cases h
  rw [if_neg h1] at h
  by_cases h2 : 536870911 < v / 8
  ·rw [if_pos h2] at h; cases h
  rw [if_neg h2] at h
  by_cases h3 : hck ⟨((v : Int) / 8), ((v : Int) % 8), 0, []⟩ last = 0
  ·rw [if_neg (by rw [h3]; simp)] at h
   injection h with e1 e2 e3
   unfold hck at h3
   simp only at h3
   by_cases h4 : (v : Int) / 8 ≤ last ∨ 536870911 < (v : Int) / 8
   ·rw [if_pos h4] at h3; cases h3
   rw [if_neg h4] at h3
   by_cases h5 : known ((v : Int) % 8)
   ·subst e1 e2 e3
    exact ⟨hl.1, hl.2.1, h1, h5, by omega, by omega, by omega⟩
   ·rw [if_neg h5] at h3; cases h3
  ·rw [if_pos h3] at h; cases h
theorem rh_er {l : List B} {last : Int} {c : Nat} {e : Int} (h : rh l last c = .er e) : e ≠ 0 := by
 unfold rh at h
 cases hr : rd 0 l with
 | er e' =>
  rw [hr] at h
  injection h with h
  subst h
  rcases rd_er _ _ _ hr with h | h <;> subst h <;> decide
 | ok v m =>
  rw [hr] at h
  simp only at h
  split at h
  ·injection h with h; subst h; decide
  ·split at h
   ·injection h with h; subst h; decide
   ·split at h
    ·rename_i h3
     injection h with h; subst h; exact h3
    ·cases h
theorem rv_ok {l : List B} {t : Int} {num n : Nat} {dat : List B} (h : rv l t = .ok num dat n) : n ≤ l.length ∧ num < 18446744073709551616 ∧ dat.length ≤ l.length := by
 unfold rv at h
 split at h
 ·split at h
  ·cases h
  ·injection h with h1 h2 h3
   subst h1 h2 h3
   have := fxv_lt2 (l.take 8)
   rw [List.length_take, Nat.min_eq_left (by omega)] at this
   exact ⟨by omega, by omega, by simp⟩
 split at h
 ·split at h
  ·cases h
  ·injection h with h1 h2 h3
   subst h1 h2 h3
   have := fxv_lt2 (l.take 4)
   rw [List.length_take, Nat.min_eq_left (by omega)] at this
   exact ⟨by omega, by omega, by simp⟩
 split at h
 ·cases hr : ri l with
  | er e => rw [hr] at h; cases h
  | ok p m =>
   rw [hr] at h
   injection h with h1 h2 h3
   subst h1 h2 h3
   have := ri_ok hr
   exact ⟨this.2.1, by omega, this.2.2.2.2⟩
 ·cases hr : rd 0 l with
  | er e => rw [hr] at h; cases h
  | ok v m =>
   rw [hr] at h
   injection h with h1 h2 h3
   subst h1 h2 h3
   exact ⟨(rd0_len hr).2.1, (rd0_ok hr).2.2, by simp⟩
theorem rv_er {l : List B} {t e : Int} (h : rv l t = .er e) : e ≠ 0 := by
 unfold rv at h
 split at h
 ·split at h
  ·injection h with h; subst h; decide
  ·cases h
 split at h
 ·split at h
  ·injection h with h; subst h; decide
  ·cases h
 split at h
 ·cases hr : ri l with
  | er e' =>
   rw [hr] at h
   injection h with h
   subst h
   rcases ri_er hr with h | h <;> subst h <;> decide
  | ok p m => rw [hr] at h; cases h
 ·cases hr : rd 0 l with
  | er e' =>
   rw [hr] at h
   injection h with h
   subst h
   rcases rd_er _ _ _ hr with h | h <;> subst h <;> decide
  | ok v m => rw [hr] at h; cases h
theorem whl_end {d : List B} {k p : Nat} {last : Int} {c : Nat} (h : ¬ p < d.length) : whl d k p last c = ([], none) := by
 cases k with
 | zero => rfl
 | succ k => rw [whl, if_neg h]
theorem whl_head {d : List B} {k p : Nat} {last : Int} {c : Nat} {e : Int} (h : p < d.length) (hk : d.length - p ≤ k) (hr : rh (d.drop p) last c = .er e) : whl d k p last c = ([], some (p, e)) := by
 cases k with
 | zero => omega
 | succ k => rw [whl, if_pos h, hr]
theorem whl_value {d : List B} {k p : Nat} {last : Int} {c : Nat} {no ty : Int} {n : Nat} {e : Int} (h : p < d.length) (hk : d.length - p ≤ k) (hr : rh (d.drop p) last c = .ok no ty n) (hv : rv (d.drop (p + n)) ty = .er e) : whl d k p last c = ([], some (p + n, e)) := by
 cases k with
 | zero => omega
 | succ k => rw [whl, if_pos h, hr]; simp only; rw [hv]
theorem whl_step {d : List B} {k p : Nat} {last : Int} {c : Nat} {no ty : Int} {n num m : Nat} {dat : List B} (h : p < d.length) (hk : d.length - p ≤ k) (hr : rh (d.drop p) last c = .ok no ty n) (hv : rv (d.drop (p + n)) ty = .ok num dat m) : ∃ j, d.length - (p + n + m) ≤ j ∧ whl d k p last c = ((p, ⟨no, ty, num, dat⟩) :: (whl d j (p + n + m) no (c + 1)).1, (whl d j (p + n + m) no (c + 1)).2) := by
 have := (rh_ok hr).1
 cases k with
 | zero => omega
 | succ k => exact ⟨k, by omega, by rw [whl, if_pos h, hr]; simp only; rw [hv]⟩
theorem row_set {W : World} {g : Nat} {cs : Array Value} {t : TypeId} (hg : W.heap[g]? = some (.cells cs t (0, 0))) (j : Nat) (z : Value) : (W.setCell ⟨g, j, none⟩ z).heap[g]? = some (.cells (cs.setIfInBounds j z) t (0, 0)) :=
 heap_setCell_same W g j _ t _ hg
theorem wp_skip_op {P : Program} {o : Oper} {a : Act} {w : World} {K : Act → World → Prop} {Q : Exit → Act → World → Prop} (w' : World) (hx : (execOp a.eval o).run P w = .ok .skip w') (h : K (a.put o.dst undef) w') : o.wp P a w K Q := by
 unfold Oper.wp
 rw [hx, Oper.upon_skip]
 exact h
theorem wpListIn_load_want {F : Fence} {n : Nat} {P : Program} {ops : Array Oper} {rest : List Oper} {o : Oper} {a : Act} {w : World} {Q : Exit → Act → World → Prop} (hg : o.guard = none) (ty : TypeId) (x : Operand) (ho : o.op = .load ty x)
 (g : Nat) (hx : a.eval x = .pointer (some ⟨g, 0, none⟩)) (t : TypeId) (cs : Array Value) (fr : Nat × Nat) (d : TypeDesc) (hr : w.heap[g]? = some (.cells cs t fr))
 (hu : P.underlying ty = some d) (hd : (match d with | .struct _ | .array _ _ => true | _ => false) = true) (hi : (P.info? ty).map (·.size) = some cs.size)
 (h : wpListIn F n P ops Q rest (a.put o.dst (.agg cs)) w) : wpListIn F n P ops Q (o :: rest) a w := by
 refine wpListIn_plain hg fun K hK => ?_
 refine ⟨?_, ?_⟩
 ·intro f hf
  simp [Oper.about, ho] at hf
 ·rw [Oper.semAt_plain F _ _ (by rw [ho]; intro c hc; cases hc)]
  unfold execOp
  simp only [ho, hx, Instr.loadAt, Instr.sureAddr, Sem.run_bind, Sem.run_pure, Result.andThen_ok, run_loadVar_row w g t ty cs fr d hr hu hd hi]
  exact hK _ _ h
def wkr (v : Value) : Array Value := #[v, .int .i64 0, .int .i64 0]
set_option maxRecDepth 100000 in
set_option maxHeartbeats 4000000 in
theorem a_fields (d : List B) (v : Value) (wk l : Nat) (J Jx : List (Nat × Fd) → World → Prop) (hcap : ∀ a l c, v = .slice a l c → l ≤ c)
 (hJb : ∀ pre A C, J pre A → Below A.heap.size A C → J pre C)
 (hJr : ∀ pre A, J pre A → A.heap[wk]? = some (.cells (wkr v) 148 (0, 0)) ∧ BysB A v d)
 (hY : ∀ pre (x : Nat × Fd) u A C, J pre A → Below A.heap.size A C → Own C A.heap.size u x.2.dat → x.1 < d.length → Fok x.2 → pre.length < 64 → YieldAt Fence.wide 2 Tryz.prog l #[.int .i64 (x.1 : Int), .agg #[.int .i64 x.2.no, .int .i64 x.2.ty, .int .u64 (x.2.num : Int), u]] C fun e C' =>
  (e = .returned (.bool true) ∧ J (pre ++ [x]) C' ∧ ∀ g, A.heap.size ≤ g → g < C.heap.size → C'.heap[g]? = C.heap[g]?) ∨ (e = .returned (.bool false) ∧ Jx (pre ++ [x]) C'))
 (w : World) (h0 : J [] w) (hd4 : d.length ≤ 4194304) :
 Calls Tryz.prog 56 #[.pointer (some ⟨wk, 0, none⟩), .func (.yield l) #[] #[]] w fun e w' => (∃ r, e = .returned r) ∧
  (((whl d d.length 0 0 0).2 = none ∧ J (whl d d.length 0 0 0).1 w') ∨
   (∃ p e0 W, (whl d d.length 0 0 0).2 = some (p, e0) ∧ J (whl d d.length 0 0 0).1 W ∧ w' = (W.setCell ⟨wk, 1, none⟩ (.int .i64 (p : Int))).setCell ⟨wk, 2, none⟩ (.int .i64 e0)) ∨
   (∃ pre, pre <+: (whl d d.length 0 0 0).1 ∧ Jx pre w')) := by
 have hdl := (hJr _ _ h0).2.2.1
 obtain ⟨ao, cap, rfl⟩ := (hJr _ _ h0).2.form
 go_enter Tryz.func56, Tryz.ntmps56
 go_wp2_with (fail)
 go_loopw [4, 5, 6] (fun a0 b0 c0 wr => ∃ (p k : Nat) (last : Int) (pre : List (Nat × Fd)), p ≤ d.length ∧ pre.length ≤ 64 ∧ d.length - p ≤ k ∧ 0 ≤ last ∧ last ≤ 536870911 ∧ a0 = .int .i64 (p : Int) ∧ b0 = .int .i64 last ∧ c0 = .int .i64 (pre.length : Int) ∧ whl d d.length 0 0 0 = (pre ++ (whl d k p last pre.length).1, (whl d k p last pre.length).2) ∧ J pre wr) (fun a0 _ _ _ => d.length - (intOf a0).toNat)
 case atStart => exact ⟨0, d.length, 0, [], by omega, by simp, by omega, by omega, by omega, rfl, rfl, rfl, by simp, h0⟩
 case round =>
  obtain ⟨p, k, last, pre, hp, hpl, hk, hl0, hl1, rfl, rfl, rfl, hwh, hJ⟩ := hrel
  clear h0
  obtain ⟨hrow, hB⟩ := hJr _ _ hJ
  have hwl := lt_of_row hrow
  have cb : wr.cell? ⟨wk, 0, none⟩ = some (.slice ao d.length cap) := by rw [cell_of_row wr wk 0 _ _ _ hrow]; rfl
  by_cases hlt : p < d.length
  ·have hd : decide ((p : Int) < (d.length : Int)) = true := by simp; omega
   have cH := a_readHead d p last pre.length hp wr _ hB
   cases hr : rh (d.drop p) last pre.length with
   | er e =>
    have hfin : Hid (whl d d.length 0 0 0 = (pre, some (p, e))) := hide (by rw [hwh, whl_head hlt hk hr]; simp)
    have he : (e == 0) = false := by simpa using rh_er hr
    rw [hr] at cH
    simp only [hres] at cH
    clear hr hwh
    generalize pre.length = pl at *
    go_wp2_with (fail)
    refine cH.mono ?_
    rintro e_ w1 ⟨rfl, hb⟩
    have hrow1 := keep hb hrow
    have r0 := hp1_0 w1 (.cells #[.int .i64 0, .int .i64 0, .int .u64 0, .slice none 0 0] 107)
    have hba : Below wr.heap.size wr (w1.alloc (.cells #[.int .i64 0, .int .i64 0, .int .u64 0, .slice none 0 0] 107)) := hb.alloc hb.size _
    have hone : (#[.int .i64 0, .int .i64 0, .int .u64 0, .slice none 0 0] : Array Value).all (·.oneCell') = true := by simp [Value.oneCell']
    clear cH
    go_wp2_with (first | (refine wpList_alloc rfl 107 rfl #[.int .i64 0, .int .i64 0, .int .u64 0, .slice none 0 0] zFd ?_) | (refine wpList_store_row rfl 107 _ _ rfl (w1.heap.size) #[.int .i64 0, .int .i64 0, .int .u64 0, .slice none 0 0] rfl rfl 107 _ r0 infoF rfl hone ?_; refine wpList_stay ?_) | fail)
    unfold WpStay
    have hrow2 : ((w1.alloc (.cells #[.int .i64 0, .int .i64 0, .int .u64 0, .slice none 0 0] 107)).setRow w1.heap.size #[.int .i64 0, .int .i64 0, .int .u64 0, .slice none 0 0]).heap[wk]? = some (.cells (wkr (.slice ao d.length cap)) 148 (0, 0)) := keep (below_setRow hba hb.size _) hrow
    have hJ2 := hJb _ _ _ hJ (below_setRow hba hb.size #[.int .i64 0, .int .i64 0, .int .u64 0, .slice none 0 0])
    generalize (w1.alloc (.cells #[.int .i64 0, .int .i64 0, .int .u64 0, .slice none 0 0] 107)).setRow w1.heap.size #[.int .i64 0, .int .i64 0, .int .u64 0, .slice none 0 0] = w2 at *
    clear r0 hba hb hrow1 hone
    have c1 : w2.cell? ⟨wk, 1, none⟩ = some (.int .i64 0) := by rw [cell_of_row w2 wk 1 _ _ _ hrow2]; rfl
    have c2 : w2.cell? ⟨wk, 2, none⟩ = some (.int .i64 0) := by rw [cell_of_row w2 wk 2 _ _ _ hrow2]; rfl
    have f1 : w2.frozen? ⟨wk, 1, none⟩ = false := by simp [World.frozen?, hrow2]
    have f2 : w2.frozen? ⟨wk, 2, none⟩ = false := by simp [World.frozen?, hrow2]
    have c3 : (w2.setCell ⟨wk, 1, none⟩ (.int .i64 (p : Int))).cell? ⟨wk, 2, none⟩ = some (.int .i64 0) := by rw [World.cell?_setCell_other _ _ _ _ (by simp)]; exact c2
    have f3 : (w2.setCell ⟨wk, 1, none⟩ (.int .i64 (p : Int))).frozen? ⟨wk, 2, none⟩ = false := by rw [World.frozen?_setCell]; exact f2
    go_wp2_with (fail)
    refine bodyPost_ret (results_none rfl _ _ _) rfl ?_
    rw [hfin.out]
    exact ⟨⟨_, rfl⟩, .inr (.inl ⟨p, e, w2, rfl, hJ2, rfl⟩)⟩
   | ok no ty n =>
    obtain ⟨hn0, hnl, hc64, hty, hno0, hno1, hno2⟩ := rh_ok hr
    rw [List.length_drop] at hnl
    have hpn : p + n ≤ d.length := by omega
    rw [hr] at cH
    simp only [hres] at cH
    obtain ⟨q, hqe⟩ : ∃ q, Hid (q = p + n) := ⟨_, hide rfl⟩
    have hpn2 : q ≤ d.length := by rw [hqe.out]; exact hpn
    rw [← hqe.out] at cH
    have hr2 := hide hr
    have hwh2 := hide hwh
    clear hr hwh
    have hpl2 : pre.length < 64 := by omega
    have hpre := hide (rfl : pre.length = pre.length)
    obtain ⟨pl, hple⟩ : ∃ pl, Hid (pl = pre.length) := ⟨_, hide rfl⟩
    rw [← hple.out] at cH hpl2 ⊢
    clear hpl hc64 hpre
    go_wp2_with (fail)
    refine cH.mono ?_
    rintro e_ w1 ⟨rfl, hb⟩
    have r0 := hp1_0 w1 (.cells #[.int .i64 0, .int .i64 0, .int .u64 0, .slice none 0 0] 107)
    have hba : Below wr.heap.size wr (w1.alloc (.cells #[.int .i64 0, .int .i64 0, .int .u64 0, .slice none 0 0] 107)) := hb.alloc hb.size _
    have hone : (#[.int .i64 no, .int .i64 ty, .int .u64 0, .slice none 0 0] : Array Value).all (·.oneCell') = true := by simp [Value.oneCell']
    clear cH
    go_wp2_with (first | (refine wpList_alloc rfl 107 rfl #[.int .i64 0, .int .i64 0, .int .u64 0, .slice none 0 0] zFd ?_) | (refine wpList_store_row rfl 107 _ _ rfl (w1.heap.size) #[.int .i64 no, .int .i64 ty, .int .u64 0, .slice none 0 0] rfl rfl 107 _ r0 infoF rfl hone ?_; refine wpList_stay ?_) | fail)
    unfold WpStay
    have hq := below_setRow hba hb.size #[.int .i64 no, .int .i64 ty, .int .u64 0, .slice none 0 0]
    have rF := setRow_heap _ w1.heap.size _ #[.int .i64 no, .int .i64 ty, .int .u64 0, .slice none 0 0] _ _ r0
    have hgl : wr.heap.size ≤ w1.heap.size := hb.size
    generalize (w1.alloc (.cells #[.int .i64 0, .int .i64 0, .int .u64 0, .slice none 0 0] 107)).setRow w1.heap.size #[.int .i64 no, .int .i64 ty, .int .u64 0, .slice none 0 0] = w2 at *
    clear r0 hba hb hone
    generalize w1.heap.size = g at *
    go_wp2_with (fail)
    have hbd : Below w2.heap.size w2 w2.drew := below_drN (Below.refl _ _) 1
    replace hq := Below.after hq hbd
    replace rF := keep hbd rF
    clear hbd
    have hS : w2.drew.cell? ⟨wk, 0, none⟩ = some (.slice ao d.length cap) ∧ w2.drew.cell? ⟨g, 1, none⟩ = some (.int .i64 ty) := ⟨by rw [cell_of_row _ wk 0 _ _ _ (keep hq hrow)]; rfl, by rw [cell_of_row _ g 1 _ _ _ rF]; rfl⟩
    refine wp_region_noPanic ?_
    refine wp_region_held (S := fun W => W.cell? ⟨wk, 0, none⟩ = some (.slice ao d.length cap) ∧ W.cell? ⟨g, 1, none⟩ = some (.int .i64 ty)) (by kernel_rfl) ?_
    change wpAnyH _ _ _ _ _ _ _ _ (World.drew _)
    generalize w2.drew = w3 at *
    refine wpAnyH_take (i := 0) (v := ?v1) rfl (by kernel_rfl) (by kernel_rfl) (by kernel_rfl) (fun _ _ _ h => h) (Or.inl ⟨by rfl, ?y1⟩) hS ?r1
    case y1 =>
     intro w_ hS_
     go_simp
     try with_reducible rfl
    simp only [Act.put, List.getElem_toArray, List.getElem_cons_zero, List.setIfInBounds_toArray, List.set_cons_succ, List.set_cons_zero]
    refine wpAnyH_take (i := 1) (v := ?v2) rfl (by kernel_rfl) (by kernel_rfl) (by kernel_rfl) (fun _ _ _ h => h) (Or.inl ⟨by rfl, ?y2⟩) hS ?r2
    case y2 =>
     intro w_ hS_
     go_simp
     try with_reducible rfl
    simp only [Act.put, List.getElem_toArray, List.getElem_cons_succ, List.getElem_cons_zero, List.setIfInBounds_toArray, List.set_cons_succ, List.set_cons_zero]
    refine wpAnyH_take (i := 2) (v := ?v3) rfl (by kernel_rfl) (by kernel_rfl) (by kernel_rfl) (fun _ _ _ h => h) (Or.inl ⟨by rfl, ?y3⟩) hS ?r3
    case y3 =>
     intro w_ hS_
     go_simp
     try with_reducible rfl
    simp only [Act.put, List.getElem_toArray, List.getElem_cons_succ, List.getElem_cons_zero, List.setIfInBounds_toArray, List.set_cons_succ, List.set_cons_zero]
    refine wpAnyH_take (i := 3) (v := .slice ao d.length cap) rfl (by kernel_rfl) (by kernel_rfl) (by kernel_rfl) (fun _ _ _ h => h) (Or.inl ⟨by rfl, ?y4⟩) hS ?r4
    case y4 =>
     intro w_ hS_
     have c_ := hS_.1
     go_simp
     try with_reducible rfl
    simp only [Act.put, List.getElem_toArray, List.getElem_cons_succ, List.getElem_cons_zero, List.setIfInBounds_toArray, List.set_cons_succ, List.set_cons_zero]
    refine wpAnyH_take (i := 4) (v := ?v5) rfl (by kernel_rfl) (by kernel_rfl) (by kernel_rfl) (fun _ _ _ h => h) (Or.inl ⟨by rfl, ?y5⟩) hS ?r5
    case y5 =>
     intro w_ hS_
     go_simp
     try with_reducible rfl
    simp only [Act.put, List.getElem_toArray, List.getElem_cons_succ, List.getElem_cons_zero, List.setIfInBounds_toArray, List.set_cons_succ, List.set_cons_zero]
    refine wpAnyH_take (i := 5) (v := ?v6) rfl (by kernel_rfl) (by kernel_rfl) (by kernel_rfl) (fun _ _ _ h => h) (Or.inl ⟨by rfl, ?y6⟩) hS ?r6
    case y6 =>
     intro w_ hS_
     go_simp
     try with_reducible rfl
    simp only [Act.put, List.getElem_toArray, List.getElem_cons_succ, List.getElem_cons_zero, List.setIfInBounds_toArray, List.set_cons_succ, List.set_cons_zero]
    refine wpAnyH_take (i := 6) (v := .int .i64 ty) rfl (by kernel_rfl) (by kernel_rfl) (by kernel_rfl) (fun _ _ _ h => h) (Or.inl ⟨by rfl, ?y7⟩) hS ?r7
    case y7 =>
     intro w_ hS_
     have c_ := hS_.2
     go_simp
     try with_reducible rfl
    simp only [Act.put, List.getElem_toArray, List.getElem_cons_succ, List.getElem_cons_zero, List.setIfInBounds_toArray, List.set_cons_succ, List.set_cons_zero]
    refine wpAnyH_one (k := 7) (fuel := 11) (by kernel_rfl) rfl (by kernel_rfl) (fun K_ hK => ?_)
    refine wp_call_ex (f := 83) (R := fun v_ w_ => ∃ u, v_ = .tuple #[.int .u64 (vnum (rv (d.drop q) ty) : Int), u, .int .i64 (vend q (rv (d.drop q) ty)), .int .i64 (verr (rv (d.drop q) ty))] ∧ Own w_ w3.heap.size u (vdat (rv (d.drop q) ty)) ∧ Below w3.heap.size w3 w_) (by kernel_rfl) ((a_readValue d q ty hpn2 hty w3 _ (hB.keep hq) hcap).mono (fun e_ w_ h_ => by obtain ⟨u_, h1_, h2_, h3_⟩ := h_; exact ⟨_, h1_, u_, rfl, h2_, h3_⟩)) (fun v_ w4 hX_ => ?_)
    obtain ⟨u, rfl, hO, hb_⟩ := hX_
    have hg3 : g < w3.heap.size := lt_of_row rF
    have hb3 := hq.size
    replace hq := Below.after hq hb_
    replace rF := keep hb_ rF
    clear hb_
    obtain ⟨uo, uc, hu⟩ := slen_own hO
    subst hu
    generalize hR : rv (d.drop q) ty = R at *
    replace hR := hide hR
    replace hS : w4.cell? ⟨wk, 0, none⟩ = some (.slice ao d.length cap) ∧ w4.cell? ⟨g, 1, none⟩ = some (.int .i64 ty) := ⟨by rw [cell_of_row _ wk 0 _ _ _ (keep hq hrow)]; rfl, by rw [cell_of_row _ g 1 _ _ _ rF]; rfl⟩
    refine hK _ _ hS ?_
    simp only [Act.put, List.getElem_toArray, List.getElem_cons_succ, List.getElem_cons_zero, List.setIfInBounds_toArray, List.set_cons_succ, List.set_cons_zero]
    clear hK
    refine wpAnyH_take (i := 8) (v := ?v8) rfl (by kernel_rfl) (by kernel_rfl) (by kernel_rfl) (fun _ _ _ h => h) (Or.inl ⟨by rfl, ?y8⟩) hS ?r8
    case y8 =>
     intro w_ hS_
     go_simp
     try with_reducible rfl
    simp only [Act.put, List.getElem_toArray, List.getElem_cons_succ, List.getElem_cons_zero, List.setIfInBounds_toArray, List.set_cons_succ, List.set_cons_zero]
    refine wpAnyH_take (i := 9) (v := ?v9) rfl (by kernel_rfl) (by kernel_rfl) (by kernel_rfl) (fun _ _ _ h => h) (Or.inl ⟨by rfl, ?y9⟩) hS ?r9
    case y9 =>
     intro w_ hS_
     go_simp
     try with_reducible rfl
    simp only [Act.put, List.getElem_toArray, List.getElem_cons_succ, List.getElem_cons_zero, List.setIfInBounds_toArray, List.set_cons_succ, List.set_cons_zero]
    refine wpAnyH_take (i := 10) (v := ?v10) rfl (by kernel_rfl) (by kernel_rfl) (by kernel_rfl) (fun _ _ _ h => h) (Or.inl ⟨by rfl, ?y10⟩) hS ?r10
    case y10 =>
     intro w_ hS_
     go_simp
     try with_reducible rfl
    simp only [Act.put, List.getElem_toArray, List.getElem_cons_succ, List.getElem_cons_zero, List.setIfInBounds_toArray, List.set_cons_succ, List.set_cons_zero]
    refine wpAnyH_take (i := 11) (v := ?v11) rfl (by kernel_rfl) (by kernel_rfl) (by kernel_rfl) (fun _ _ _ h => h) (Or.inl ⟨by rfl, ?y11⟩) hS ?r11
    case y11 =>
     intro w_ hS_
     go_simp
     try with_reducible rfl
    simp only [Act.put, List.getElem_toArray, List.getElem_cons_succ, List.getElem_cons_zero, List.setIfInBounds_toArray, List.set_cons_succ, List.set_cons_zero]
    refine wpAnyH_take (i := 12) (v := ?v12) rfl (by kernel_rfl) (by kernel_rfl) (by kernel_rfl) (fun _ _ _ h => h) (Or.inl ⟨by rfl, ?y12⟩) hS ?r12
    case y12 =>
     intro w_ hS_
     go_simp
     try with_reducible rfl
    simp only [Act.put, List.getElem_toArray, List.getElem_cons_succ, List.getElem_cons_zero, List.setIfInBounds_toArray, List.set_cons_succ, List.set_cons_zero]
    refine wpAnyH_take (i := 13) (v := ?v13) rfl (by kernel_rfl) (by kernel_rfl) (by kernel_rfl) (fun _ _ _ h => h) (Or.inl ⟨by rfl, ?y13⟩) hS ?r13
    case y13 =>
     intro w_ hS_
     go_simp
     try with_reducible rfl
    simp only [Act.put, List.getElem_toArray, List.getElem_cons_succ, List.getElem_cons_zero, List.setIfInBounds_toArray, List.set_cons_succ, List.set_cons_zero]
    refine wpAnyH_one (k := 14) (fuel := 4) (by kernel_rfl) rfl (by kernel_rfl) (fun K_ hK => ?_)
    have c_ : w4.cell? ⟨g, 2, none⟩ = some (.int .u64 0) := by rw [cell_of_row _ g 2 _ _ _ rF]; rfl
    have f_ : w4.frozen? ⟨g, 2, none⟩ = false := by simp [World.frozen?, rF]
    refine wp_skip_op (w4.setCell ⟨g, 2, none⟩ (.int .u64 (vnum R : Int))) (by go_simp) ?_
    clear c_ f_
    replace rF := row_set rF 2 (.int .u64 (vnum R : Int))
    replace hq := hq.setCell (p := ⟨g, 2, none⟩) hgl (.int .u64 (vnum R : Int))
    replace hO := own_other (j := 2) (u := .int .u64 (vnum R : Int)) hO hg3
    replace hS : (w4.setCell ⟨g, 2, none⟩ (.int .u64 (vnum R : Int))).cell? ⟨wk, 0, none⟩ = some (.slice ao d.length cap) ∧ (w4.setCell ⟨g, 2, none⟩ (.int .u64 (vnum R : Int))).cell? ⟨g, 1, none⟩ = some (.int .i64 ty) := ⟨by rw [cell_of_row _ wk 0 _ _ _ (keep hq hrow)]; rfl, by rw [cell_of_row _ g 1 _ _ _ rF]; rfl⟩
    refine hK _ _ hS ?_
    simp only [Act.put, List.getElem_toArray, List.getElem_cons_succ, List.getElem_cons_zero]
    clear hK
    generalize w4.setCell ⟨g, 2, none⟩ (.int .u64 (vnum R : Int)) = w5 at *
    refine wpAnyH_take (i := 15) (v := ?v14) rfl (by kernel_rfl) (by kernel_rfl) (by kernel_rfl) (fun _ _ _ h => h) (Or.inl ⟨by rfl, ?y14⟩) hS ?r14
    case y14 =>
     intro w_ hS_
     go_simp
     try with_reducible rfl
    simp only [Act.put, List.getElem_toArray, List.getElem_cons_succ, List.getElem_cons_zero, List.setIfInBounds_toArray, List.set_cons_succ, List.set_cons_zero]
    refine wpAnyH_one (k := 16) (fuel := 2) (by kernel_rfl) rfl (by kernel_rfl) (fun K_ hK => ?_)
    have c_ : w5.cell? ⟨g, 3, none⟩ = some (.slice none 0 0) := by rw [cell_of_row _ g 3 _ _ _ rF]; rfl
    have f_ : w5.frozen? ⟨g, 3, none⟩ = false := by simp [World.frozen?, rF]
    refine wp_skip_op (w5.setCell ⟨g, 3, none⟩ (.slice uo (vdat R).length uc)) (by go_simp) ?_
    clear c_ f_
    replace rF := row_set rF 3 (.slice uo (vdat R).length uc)
    replace hq := hq.setCell (p := ⟨g, 3, none⟩) hgl (.slice uo (vdat R).length uc)
    replace hO := own_other (j := 3) (u := .slice uo (vdat R).length uc) hO hg3
    replace hS : (w5.setCell ⟨g, 3, none⟩ (.slice uo (vdat R).length uc)).cell? ⟨wk, 0, none⟩ = some (.slice ao d.length cap) ∧ (w5.setCell ⟨g, 3, none⟩ (.slice uo (vdat R).length uc)).cell? ⟨g, 1, none⟩ = some (.int .i64 ty) := ⟨by rw [cell_of_row _ wk 0 _ _ _ (keep hq hrow)]; rfl, by rw [cell_of_row _ g 1 _ _ _ rF]; rfl⟩
    refine hK _ _ hS ?_
    simp only [Act.put, List.getElem_toArray, List.getElem_cons_succ, List.getElem_cons_zero]
    clear hK
    generalize w5.setCell ⟨g, 3, none⟩ (.slice uo (vdat R).length uc) = w6 at *
    refine wpAnyH_take (i := 17) (v := ?v15) rfl (by kernel_rfl) (by kernel_rfl) (by kernel_rfl) (fun _ _ _ h => h) (Or.inl ⟨by rfl, ?y15⟩) hS ?r15
    case y15 =>
     intro w_ hS_
     go_simp
     try with_reducible rfl
    simp only [Act.put, List.getElem_toArray, List.getElem_cons_succ, List.getElem_cons_zero, List.setIfInBounds_toArray, List.set_cons_succ, List.set_cons_zero]
    refine wpAnyH_take (i := 18) (v := ?v16) rfl (by kernel_rfl) (by kernel_rfl) (by kernel_rfl) (fun _ _ _ h => h) (Or.inl ⟨by rfl, ?y16⟩) hS ?r16
    case y16 =>
     intro w_ hS_
     go_simp
     try with_reducible rfl
    simp only [Act.put, List.getElem_toArray, List.getElem_cons_succ, List.getElem_cons_zero, List.setIfInBounds_toArray, List.set_cons_succ, List.set_cons_zero]
    refine wpAnyH_done (by kernel_rfl) ?_ _
    refine NoPanic.normal ?_
    cases hRc : R with
    | er e =>
     subst hRc
     have he : (e == 0) = false := by simpa using rv_er hR.out
     have hfin : Hid (whl d d.length 0 0 0 = (pre, some (q, e))) := hide (by rw [hwh2.out, whl_value hlt hk hr2.out (by rw [← hqe.out]; exact hR.out), ← hqe.out]; simp)
     have hJ2 := hJb _ _ _ hJ hq
     have hrow2 := keep hq hrow
     simp only [vnum, vdat, vend, verr] at *
     clear hR hr2 hwh2 hO hq rF hS
     have c1 : w6.cell? ⟨wk, 1, none⟩ = some (.int .i64 0) := by rw [cell_of_row w6 wk 1 _ _ _ hrow2]; rfl
     have c2 : w6.cell? ⟨wk, 2, none⟩ = some (.int .i64 0) := by rw [cell_of_row w6 wk 2 _ _ _ hrow2]; rfl
     have f1 : w6.frozen? ⟨wk, 1, none⟩ = false := by simp [World.frozen?, hrow2]
     have f2 : w6.frozen? ⟨wk, 2, none⟩ = false := by simp [World.frozen?, hrow2]
     have c3 : (w6.setCell ⟨wk, 1, none⟩ (.int .i64 (q : Int))).cell? ⟨wk, 2, none⟩ = some (.int .i64 0) := by rw [World.cell?_setCell_other _ _ _ _ (by simp)]; exact c2
     have f3 : (w6.setCell ⟨wk, 1, none⟩ (.int .i64 (q : Int))).frozen? ⟨wk, 2, none⟩ = false := by rw [World.frozen?_setCell]; exact f2
     go_wp2_with (fail)
     refine bodyPost_ret (results_none rfl _ _ _) rfl ?_
     rw [hfin.out]
     exact ⟨⟨_, rfl⟩, .inr (.inl ⟨q, e, w6, rfl, hJ2, rfl⟩)⟩
    | ok num dat m =>
     subst hRc
     have hv := rv_ok hR.out
     rw [List.length_drop] at hv
     obtain ⟨k2, hk2, hst⟩ := whl_step hlt hk hr2.out (by rw [← hqe.out]; exact hR.out)
     rw [← hqe.out] at hst hk2
     have hst2 : Hid (whl d d.length 0 0 0 = ((pre ++ [(p, (⟨no, ty, num, dat⟩ : Fd))]) ++ (whl d k2 (q + m) no (pre ++ [(p, (⟨no, ty, num, dat⟩ : Fd))]).length).1, (whl d k2 (q + m) no (pre ++ [(p, (⟨no, ty, num, dat⟩ : Fd))]).length).2)) := hide (by rw [hwh2.out, hst, List.length_append, List.length_singleton, List.append_assoc]; rfl)
     simp only [vnum, vdat, vend, verr] at hO rF ⊢
     replace rF : w6.heap[g]? = some (.cells #[.int .i64 no, .int .i64 ty, .int .u64 (num : Int), .slice uo dat.length uc] 107 (0, 0)) := rF
     have hFk : Fok ⟨no, ty, num, dat⟩ := ⟨hv.2.1, by have := hv.2.2; simp only; omega, by simp only; omega, by simp only; omega⟩
     obtain ⟨fn, tmps, assign, body, hy, hRd⟩ := hY pre (p, ⟨no, ty, num, dat⟩) _ wr w6 hJ hq (own_down hO hb3) hlt hFk (by rw [← hple.out]; exact hpl2)
     dsimp only at hy
     have hqm : q + m ≤ d.length := by omega
     have hpm : p < q + m := by rw [hqe.out]; omega
     have hnl : pl + 1 = (pre ++ [(p, (⟨no, ty, num, dat⟩ : Fd))]).length := by rw [List.length_append, List.length_singleton, hple.out]
     have hlg := lt_of_row rF
     clear hst hR hr2 hwh2 hO hS hFk hv
     iterate 20 go_step
     refine (wpIn_wide (n := 3)).1 ?_
     gi_wp2_with (first | (refine wpListIn_load_want rfl 107 _ rfl g rfl 107 _ (0, 0) _ rF Tryz.underlying107 rfl infoF ?_) | fail)
     refine hRd.mono ?_
     clear hRd hy
     rintro e_ w7 (⟨rfl, hJ7, hk7⟩ | ⟨rfl, hJx7⟩)
     ·have rF7 := (hk7 g hgl hlg).trans rF
      have c7 : w7.cell? ⟨g, 0, none⟩ = some (.int .i64 no) := by rw [cell_of_row _ g 0 _ _ _ rF7]; rfl
      clear hk7 rF hq cb hrow hJ hB
      gi_wp2_with (fail)
      go_wp2_with (fail)
      have hbd : Below w7.heap.size w7 w7.drew := below_drN (Below.refl _ _) 1
      replace hJ7 := hJb _ _ _ hJ7 hbd
      have c8 : w7.drew.cell? ⟨g, 0, none⟩ = some (.int .i64 no) := by rw [cell_of_row _ g 0 _ _ _ (keep hbd rF7)]; rfl
      clear hbd c7 rF7
      refine wp_region_noPanic ?_
      refine wp_region_held (S := fun W => W.cell? ⟨g, 0, none⟩ = some (.int .i64 no)) (by kernel_rfl) ?_
      change wpAnyH _ _ _ _ _ _ _ _ (World.drew _)
      generalize w7.drew = w8 at *
      refine wpAnyH_take (i := 0) (v := ?v17) rfl (by kernel_rfl) (by kernel_rfl) (by kernel_rfl) (fun _ _ _ h => h) (Or.inl ⟨by rfl, ?y17⟩) c8 ?r17
      case y17 =>
       intro w_ hS_
       go_simp
       try with_reducible rfl
      simp only [Act.put, List.getElem_toArray, List.getElem_cons_zero, List.setIfInBounds_toArray, List.set_cons_succ, List.set_cons_zero]
      refine wpAnyH_take (i := 1) (v := ?v18) rfl (by kernel_rfl) (by kernel_rfl) (by kernel_rfl) (fun _ _ _ h => h) (Or.inl ⟨by rfl, ?y18⟩) c8 ?r18
      case y18 =>
       intro w_ hS_
       go_simp
       try with_reducible rfl
      simp only [Act.put, List.getElem_toArray, List.getElem_cons_succ, List.getElem_cons_zero, List.setIfInBounds_toArray, List.set_cons_succ, List.set_cons_zero]
      refine wpAnyH_take (i := 2) (v := .int .i64 no) rfl (by kernel_rfl) (by kernel_rfl) (by kernel_rfl) (fun _ _ _ h => h) (Or.inl ⟨by rfl, ?y19⟩) c8 ?r19
      case y19 =>
       intro w_ hS_
       have c_ := hS_
       go_simp
       try with_reducible rfl
      simp only [Act.put, List.getElem_toArray, List.getElem_cons_succ, List.getElem_cons_zero, List.setIfInBounds_toArray, List.set_cons_succ, List.set_cons_zero]
      refine wpAnyH_take (i := 3) (v := ?v20) rfl (by kernel_rfl) (by kernel_rfl) (by kernel_rfl) (fun _ _ _ h => h) (Or.inl ⟨by rfl, ?y20⟩) c8 ?r20
      case y20 =>
       intro w_ hS_
       go_simp
       try with_reducible rfl
      simp only [Act.put, List.getElem_toArray, List.getElem_cons_succ, List.getElem_cons_zero, List.setIfInBounds_toArray, List.set_cons_succ, List.set_cons_zero]
      refine wpAnyH_take (i := 4) (v := ?v21) rfl (by kernel_rfl) (by kernel_rfl) (by kernel_rfl) (fun _ _ _ h => h) (Or.inl ⟨by rfl, ?y21⟩) c8 ?r21
      case y21 =>
       intro w_ hS_
       go_simp
       try with_reducible rfl
      simp only [Act.put, List.getElem_toArray, List.getElem_cons_succ, List.getElem_cons_zero, List.setIfInBounds_toArray, List.set_cons_succ, List.set_cons_zero]
      refine wpAnyH_done (by kernel_rfl) ?_ _
      refine NoPanic.normal ?_
      have hpl3 : 0 ≤ (pl : Int) + 1 ∧ (pl : Int) + 1 < 100 := by omega
      go_wp2_with (fail)
      refine ⟨⟨q + m, k2, no, pre ++ [(p, ⟨no, ty, num, dat⟩)], hqm, by omega, hk2, hno2, hno1, by rw [Int.natCast_add], rfl, by rw [← hnl]; go_num, hst2.out, hJ7⟩, ?_⟩
      simp [intOf]; omega
     ·gi_wp2_with (fail)
      go_wp2_with (fail)
      refine bodyPost_ret (results_none rfl _ _ _) rfl ?_
      refine ⟨⟨_, rfl⟩, .inr (.inr ⟨_, ?_, hJx7⟩)⟩
      rw [hst2.out]
      exact ⟨_, rfl⟩
  ·have hfin : Hid (whl d d.length 0 0 0 = (pre, none)) := hide (by rw [hwh, whl_end hlt]; simp)
   have hd : decide ((p : Int) < (d.length : Int)) = false := by simp; omega
   clear hwh
   generalize pre.length = pl at *
   go_wp2_with (fail)
   go_end0
   rw [hfin.out]
   exact ⟨⟨_, rfl⟩, .inl ⟨rfl, hJ⟩⟩
end Go.Proofs.YtalgcjkiajojoaaGreatDoor

