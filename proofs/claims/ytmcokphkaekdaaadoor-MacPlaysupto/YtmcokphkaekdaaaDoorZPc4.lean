import Derived.Test.YtmcokphkaekdaaaDoorProg
import Derived.WalkKit
import Derived.WalkSpells
import Derived.WalkLawsBesides
import Derived.Lib.QuietBelow
import Derived.BigQuiet
import Derived.Test.YtmcokphkaekdaaaDoorS0
import Derived.Test.YtmcokphkaekdaaaDoorS5
import Derived.Test.YtmcokphkaekdaaaDoorS4
import Derived.Test.YtmcokphkaekdaaaDoorZVc
import Derived.Deep.RegionLaw
import Derived.Deep.RegionHeld3
import Derived.OwnWalk
namespace Go.Proofs.YtmcokphkaekdaaaDoor
open Go Go.RowKit Go.Sort
attribute [local go_sem] setCell_drewN alloc_drewN

theorem a_mwrite (key bs b : List Int) (g : Nat) (w : World) (v : Value) (rM : w.heap[g]? = some (.cells (mst key bs) 46 (0, 0))) (hB : Bys w v b) (hne : ∀ a l c, v = .slice (some a) l c → 0 < l → a.block ≠ g) (hcap : ∀ a l c, v = .slice a l c → l ≤ c) (hg1 : 1 < g) (hK : Kon w) (hz : ∀ z ∈ bs, 0 ≤ z ∧ z < 256) (hlim : bs.length + b.length ≤ 4611686018427380000) :
    Calls Tryd.prog 16 #[.pointer (some ⟨g, 0, none⟩), v] w fun e w' => e = .returned (.tuple #[]) ∧ w'.heap[g]? = some (.cells (mst key (bs ++ b)) 46 (0, 0)) ∧ w.grownBy w' (some g) := by
  have h := a_writeR (mrest key) 46 (kin key ++ bs) b g w v rM hB hne hcap hg1 hK (both_bd (kin_bd key) hz) (by rw [List.length_append, kin_len]; omega)
  rw [List.append_assoc] at h
  exact h
theorem cut3 {P : Program} {md : Region.Mode} {ops : Array Oper} {Q : Exit → Act → World → Prop} {fuel : Nat} {listed : Array Bool} {a : Act} {w : World} (f2 : Nat) (l2 : Array Bool) (S : Nat → Nat → Nat → World → Prop) (a2 : Nat → Nat → Nat → Act)
    (h1 : (∀ g m n W, S g m n W → wpAny P md ops Q f2 l2 (a2 g m n) W) → wpAny P md ops Q fuel listed a w) (h2 : ∀ g m n W, S g m n W → wpAny P md ops Q f2 l2 (a2 g m n) W) : wpAny P md ops Q fuel listed a w := h1 h2
/-- No other block than those of the two Macs turns. -/
def Gx (a b : World) (x y : Nat) : Prop := a.heap.size ≤ b.heap.size ∧ ∀ k, k < a.heap.size → k ≠ x → k ≠ y → b.heap[k]? = a.heap[k]?
theorem Gx.refl (a : World) (x y : Nat) : Gx a a x y := ⟨Nat.le_refl _, fun _ _ _ _ => rfl⟩
theorem Gx.below {a b c : World} {x y : Nat} (h : Gx a b x y) (hb : Below b.heap.size b c) : Gx a c x y := ⟨Nat.le_trans h.1 hb.size, fun k h1 h2 h3 => (hb.block k (Nat.lt_of_lt_of_le h1 h.1)).trans (h.2 k h1 h2 h3)⟩
theorem Gx.grown {a b c : World} {x y g : Nat} (h : Gx a b x y) (hb : b.grownBy c (some g)) (hg : g = x ∨ g = y ∨ a.heap.size ≤ g) : Gx a c x y := ⟨Nat.le_trans h.1 hb.size, fun k h1 h2 h3 => (hb.block k (Nat.lt_of_lt_of_le h1 h.1) (by intro e; injection e with e; omega)).trans (h.2 k h1 h2 h3)⟩
theorem NB.move {W W' : World} {v : Value} {bs : List Int} (h : NB W v bs) (hs : W.heap.size ≤ W'.heap.size) (hk : ∀ a l c, v = .slice (some a) l c → 0 < l → W'.heap[a.block]? = W.heap[a.block]?) : NB W' v bs := by
  obtain ⟨⟨ao, cap, rfl, hl, hc, hz⟩, hn⟩ := h
  refine ⟨⟨ao, cap, rfl, hl, fun j hj => ?_, hz⟩, hn⟩
  obtain ⟨b, off, rfl, h1, h2⟩ := hc j hj
  have hb := hk ⟨b, off, none⟩ _ _ rfl (by omega)
  refine ⟨b, off, rfl, Nat.lt_of_lt_of_le h1 hs, ?_⟩
  rw [← h2]
  simp only [World.cell?]
  rw [show W'.heap[b]? = W.heap[b]? from hb]
/-- The bytes lie in none of four blocks. -/
def SB (v : Value) (m0 m1 q0 q1 : Nat) : Prop := ∀ a l c, v = .slice (some a) l c → 0 < l → a.block ≠ m0 ∧ a.block ≠ m1 ∧ a.block ≠ q0 ∧ a.block ≠ q1
/-- The reference's Mac, as it lies in a world. -/
def RM (W : World) (q : Nat) (key c : List Int) (m0 m1 q0 q1 : Nat) : Prop := ∃ vK vC, W.heap[q]? = some (.cells #[vK, vC] 65 (0, 0)) ∧ NB W vK key ∧ NB W vC c ∧ SB vK m0 m1 q0 q1 ∧ SB vC m0 m1 q0 q1
theorem RM.move {W W' : World} {q : Nat} {key c : List Int} {m0 m1 q0 q1 x y : Nat} (h : RM W q key c m0 m1 q0 q1) (hg : Gx W W' x y) (hx : x = m0 ∨ x = m1) (hy : y = q0 ∨ y = q1) (hq : q ≠ x ∧ q ≠ y) : RM W' q key c m0 m1 q0 q1 := by
  obtain ⟨vK, vC, r, hK, hC, sK, sC⟩ := h
  have mv : ∀ v bs, NB W v bs → SB v m0 m1 q0 q1 → NB W' v bs := fun v bs hv sv => hv.move hg.1 (fun a l c e hl => by
    have h1 := bys_ne hv.1 a l c e hl
    have h2 := sv a l c e hl
    exact hg.2 _ h1 (by rcases hx with rfl | rfl <;> omega) (by rcases hy with rfl | rfl <;> omega))
  exact ⟨vK, vC, (hg.2 q (lt_of_row r) hq.1 hq.2).trans r, mv _ _ hK sK, mv _ _ hC sC, sK, sC⟩
theorem RM.below {W W' : World} {q : Nat} {key c : List Int} {m0 m1 q0 q1 : Nat} (h : RM W q key c m0 m1 q0 q1) (hb : Below W.heap.size W W') : RM W' q key c m0 m1 q0 q1 := by
  obtain ⟨vK, vC, r, hK, hC, sK, sC⟩ := h
  exact ⟨vK, vC, keep hb r, hK.keep hb, hC.keep hb, sK, sC⟩
theorem own_SB {W : World} {b n : Nat} {v : Value} {xs : List Value} {m0 m1 q0 q1 : Nat} (h : W.ownsRow b 5 1 v n xs) (hm : m0 < b ∧ m1 < b ∧ q0 < b ∧ q1 < b) : SB v m0 m1 q0 q1 := fun a l c e _ => by
  have := (h.lt a.block (by rw [e]; rfl)).1
  omega
/-- The state. -/
def PI (w W : World) (key sec c1 c2 : List Int) (g9 g10 m0 m1 q0 q1 : Nat) : Prop :=
  W.heap[g9]? = some (.cells #[.pointer (some ⟨m0, 0, none⟩), .pointer (some ⟨m1, 0, none⟩)] 32 (0, 0)) ∧ W.heap[g10]? = some (.cells #[.pointer (some ⟨q0, 0, none⟩), .pointer (some ⟨q1, 0, none⟩)] 35 (0, 0)) ∧ W.heap[m0]? = some (.cells (mst key c1) 46 (0, 0)) ∧ W.heap[m1]? = some (.cells (mst sec c2) 46 (0, 0)) ∧ RM W q0 key c1 m0 m1 q0 q1 ∧ RM W q1 sec c2 m0 m1 q0 q1 ∧ Below w.heap.size w W
theorem PI.below {w W W' : World} {key sec c1 c2 : List Int} {g9 g10 m0 m1 q0 q1 : Nat} (h : PI w W key sec c1 c2 g9 g10 m0 m1 q0 q1) (hb : Below W.heap.size W W') : PI w W' key sec c1 c2 g9 g10 m0 m1 q0 q1 :=
  ⟨keep hb h.1, keep hb h.2.1, keep hb h.2.2.1, keep hb h.2.2.2.1, h.2.2.2.2.1.below hb, h.2.2.2.2.2.1.below hb, Below.after h.2.2.2.2.2.2 hb⟩
/-- The blocks are all unlike, and new. -/
def Un (n g9 g10 m0 m1 q0 q1 : Nat) : Prop := (n ≤ g9 ∧ n ≤ g10 ∧ n ≤ m0 ∧ n ≤ m1 ∧ n ≤ q0 ∧ n ≤ q1) ∧ (g9 ≠ g10 ∧ g9 ≠ m0 ∧ g9 ≠ m1 ∧ g9 ≠ q0 ∧ g9 ≠ q1) ∧ (g10 ≠ m0 ∧ g10 ≠ m1 ∧ g10 ≠ q0 ∧ g10 ≠ q1) ∧ (m0 ≠ m1 ∧ m0 ≠ q0 ∧ m0 ≠ q1 ∧ m1 ≠ q0 ∧ m1 ≠ q1 ∧ q0 ≠ q1)
theorem PI.step0 {w W W' : World} {key sec c1 c2 c : List Int} {g9 g10 m0 m1 q0 q1 : Nat} {vK vC : Value} (h : PI w W key sec c1 c2 g9 g10 m0 m1 q0 q1) (hu : Un w.heap.size g9 g10 m0 m1 q0 q1) (hg : Gx W W' m0 q0) (hw : Below w.heap.size w W') (rM : W'.heap[m0]? = some (.cells (mst key c) 46 (0, 0))) (rR : W'.heap[q0]? = some (.cells #[vK, vC] 65 (0, 0))) (hK : NB W' vK key) (sK : SB vK m0 m1 q0 q1) (hC : NB W' vC c) (sC : SB vC m0 m1 q0 q1) : PI w W' key sec c c2 g9 g10 m0 m1 q0 q1 := by
  obtain ⟨h9, h10, hm0, hm1, hq0, hq1, _⟩ := h
  obtain ⟨u1, u2, u3, u4⟩ := hu
  exact ⟨(hg.2 _ (lt_of_row h9) (by omega) (by omega)).trans h9, (hg.2 _ (lt_of_row h10) (by omega) (by omega)).trans h10, rM, (hg.2 _ (lt_of_row hm1) (by omega) (by omega)).trans hm1, ⟨vK, vC, rR, hK, hC, sK, sC⟩, hq1.move hg (.inl rfl) (.inl rfl) ⟨by omega, by omega⟩, hw⟩
theorem PI.step1 {w W W' : World} {key sec c1 c2 c : List Int} {g9 g10 m0 m1 q0 q1 : Nat} {vK vC : Value} (h : PI w W key sec c1 c2 g9 g10 m0 m1 q0 q1) (hu : Un w.heap.size g9 g10 m0 m1 q0 q1) (hg : Gx W W' m1 q1) (hw : Below w.heap.size w W') (rM : W'.heap[m1]? = some (.cells (mst sec c) 46 (0, 0))) (rR : W'.heap[q1]? = some (.cells #[vK, vC] 65 (0, 0))) (hK : NB W' vK sec) (sK : SB vK m0 m1 q0 q1) (hC : NB W' vC c) (sC : SB vC m0 m1 q0 q1) : PI w W' key sec c1 c g9 g10 m0 m1 q0 q1 := by
  obtain ⟨h9, h10, hm0, hm1, hq0, hq1, _⟩ := h
  obtain ⟨u1, u2, u3, u4⟩ := hu
  exact ⟨(hg.2 _ (lt_of_row h9) (by omega) (by omega)).trans h9, (hg.2 _ (lt_of_row h10) (by omega) (by omega)).trans h10, (hg.2 _ (lt_of_row hm0) (by omega) (by omega)).trans hm0, rM, hq0.move hg (.inr rfl) (.inr rfl) ⟨by omega, by omega⟩, ⟨vK, vC, rR, hK, hC, sK, sC⟩, hw⟩
theorem z10 (W : World) : (Instr.alloc 35 true (.tuple #[])).run Tryd.prog W = .ok (.pointer (some ⟨W.heap.size, 0, none⟩)) (W.alloc (.cells #[.pointer none, .pointer none] 35)) := by kernel_rfl
theorem sb_nil (m0 m1 q0 q1 : Nat) : SB (.slice none 0 0) m0 m1 q0 q1 := fun a l c e => by cases e
theorem hx_load1 {a : Act} {o : Oper} (t : TypeId) (x : Operand) (ho : o.op = .load t x) (ad : Addr) (hx : a.eval x = .pointer (some ad)) (W : World) (v : Value) (hg : (isAgg t).run Tryd.prog W = .ok false W) (hc : W.cell? ad = some v) : (execOp a.eval o).run Tryd.prog W = .ok (.value v) W := by
  unfold execOp
  simp [ho, hx, Instr.loadAt, Instr.sureAddr, loadVar, hg, hc]
set_option maxRecDepth 100000 in
set_option maxHeartbeats 40000000 in
theorem macPlays_any (key sec : List Int) (ps : List (List Int)) (w : World) (vk vs vp : Value) (hS : Sta w) (hK : Kon w) (hKy : BysN w vk key) (hSe : BysN w vs sec) (hP : Ocs w vp ps) (hsz : ps.flatten.length ≤ 4194304) : Calls Tryd.prog 4 #[vk, vs, vp] w fun e w' => e = .returned (.bool true) ∧ Below w.heap.size w w' := by
  have lK : key.length ≤ 140737488351232 := hKy.2.1
  have lS : sec.length ≤ 140737488351232 := hSe.2.1
  have zK := bys_bd hKy.1
  have zS := bys_bd hSe.1
  replace hKy := hKy.toM
  replace hSe := hSe.toM
  have hk1 := hK.sz
  have sl1 : ∀ g W, _ := fun g W => slice_to (some ⟨g, 0, none⟩) (key.length + 80) (key.length + 80) key.length (by omega) W
  have sl2 : ∀ g W, _ := fun g W => slice_to (some ⟨g, 0, none⟩) (sec.length + 80) (sec.length + 80) sec.length (by omega) W
  obtain ⟨uk, ukc, rfl, _⟩ := id hKy.1
  obtain ⟨us, usc, rfl, _⟩ := id hSe.1
  obtain ⟨pao, pcap, rfl, hpl, hpc⟩ := hP
  have hfl := flat_len ps
  have hfn := flat_next ps
  have hfa := flat_all ps
  obtain ⟨E, eE⟩ : ∃ E : List Int, E = [] := ⟨_, rfl⟩
  have lE : E.length = 0 := by rw [eE]; rfl
  have zE : ∀ z ∈ E, 0 ≤ z ∧ z < 256 := by rw [eE]; intro z h; cases h
  have cN1 := fun (W : World) a c h q => a_mnew key W (.slice (some ⟨w.heap.size, 0, none⟩) key.length (key.length + 80)) a c h q (by omega)
  have cN2 := fun (W : World) (g : Nat) a c h q => a_mnew sec W (.slice (some ⟨g, 0, none⟩) sec.length (sec.length + 80)) a c h q (by omega)
  rw [← eE] at cN1 cN2
  replace eE := hide eE
  replace cN1 := hide cN1
  replace cN2 := hide cN2
  generalize enp : ps.length = np at *
  go_enter Tryd.func4, Tryd.ntmps4
  go_wp2_with (fail)
  refine (l_hand key w _ hKy.1 (by omega)).mono ?_
  rintro e_ w1 ⟨rfl, rk, hw⟩
  have lgk := lt_of_row rk
  go_wp2_with (fail)
  refine (l_hand sec w1 _ (hSe.1.keep hw) (by omega)).mono ?_
  rintro e_ w2 ⟨rfl, rl, hb⟩
  replace rk := keep hb rk
  replace hw := Below.after hw hb
  clear hb
  generalize w1.heap.size = gl at *
  have lgl := lt_of_row rl
  have f0 := hS.below hw
  have f4 := hK.below hw
  go_wp2_with (fail)
  have hs2 : w2.heap.size ≤ w2.heap.size := Nat.le_refl _
  obtain ⟨B2, eB2⟩ : ∃ B, B = w2.heap.size := ⟨_, rfl⟩
  rw [← eB2] at lgl hs2
  have hsB : B2 ≤ w2.heap.size := by omega
  clear hs2 eB2
  have hbd : Below w2.heap.size w2 w2.drew := below_drN (Below.refl _ _) 1
  replace rk := keep hbd rk
  replace rl := keep hbd rl
  replace f0 := f0.below hbd
  replace f4 := f4.below hbd
  replace hw := Below.after hw hbd
  replace hsB := Nat.le_trans hsB hbd.size
  clear hbd
  refine wp_region_noPanic ?_
  refine wp_region_any (by kernel_rfl) ?_
  change wpAny _ _ _ _ _ _ _ (World.drew _)
  generalize w2.drew = wd at *
  apply cut3 0 #[true, true, true, true, true, true, true, true, true, true, true, true, true] (fun g m n W => W.heap[g]? = some (.cells #[.pointer (some ⟨m, 0, none⟩), .pointer (some ⟨n, 0, none⟩)] 32 (0, 0)) ∧ W.heap[m]? = some (.cells (mst key E) 46 (0, 0)) ∧ W.heap[n]? = some (.cells (mst sec E) 46 (0, 0)) ∧ W.heap[w.heap.size]? = some (.cells (irow .u8 (key ++ mk4 80)) 5 (0, 0)) ∧ W.heap[gl]? = some (.cells (irow .u8 (sec ++ mk4 80)) 5 (0, 0)) ∧ (w.heap.size ≤ g ∧ w.heap.size ≤ m ∧ w.heap.size ≤ n ∧ g ≠ m ∧ g ≠ n ∧ m ≠ n ∧ gl < g ∧ gl < m ∧ gl < n) ∧ Below w.heap.size w W)
  · intro key_
    refine wpAny_take (i := 0) (v := ?v1) rfl (by kernel_rfl) (by kernel_rfl) (by kernel_rfl) (fun _ _ _ h => h) (Or.inl ⟨by rfl, ?y1⟩) ?r1
    case y1 =>
      intro w_
      go_simp
      try with_reducible rfl
    simp only [Act.put, List.getElem_toArray, List.getElem_cons_zero, List.setIfInBounds_toArray, List.set_cons_succ, List.set_cons_zero]
    refine wpAny_take (i := 1) (v := ?v2) rfl (by kernel_rfl) (by kernel_rfl) (by kernel_rfl) (fun _ _ _ h => h) (Or.inl ⟨by rfl, ?y2⟩) ?r2
    case y2 =>
      intro w_
      go_simp
      try with_reducible rfl
    simp only [Act.put, List.getElem_toArray, List.getElem_cons_succ, List.getElem_cons_zero, List.setIfInBounds_toArray, List.set_cons_succ, List.set_cons_zero]
    refine wpAny_take (i := 2) (v := ?v3) rfl (by kernel_rfl) (by kernel_rfl) (by kernel_rfl) (fun _ _ _ h => h) (Or.inl ⟨by rfl, ?y3⟩) ?r3
    case y3 =>
      intro w_
      go_simp
      try with_reducible rfl
    simp only [Act.put, List.getElem_toArray, List.getElem_cons_succ, List.getElem_cons_zero, List.setIfInBounds_toArray, List.set_cons_succ, List.set_cons_zero]
    refine wpAny_take (i := 3) (v := ?v4) rfl (by kernel_rfl) (by kernel_rfl) (by kernel_rfl) (fun _ _ _ h => h) (Or.inl ⟨by rfl, ?y4⟩) ?r4
    case y4 =>
      intro w_
      go_simp
      try with_reducible rfl
    simp only [Act.put, List.getElem_toArray, List.getElem_cons_succ, List.getElem_cons_zero, List.setIfInBounds_toArray, List.set_cons_succ, List.set_cons_zero]
    refine wpAny_take (i := 5) (v := ?v5) rfl (by kernel_rfl) (by kernel_rfl) (by kernel_rfl) (fun _ _ _ h => h) (Or.inl ⟨by rfl, ?y5⟩) ?r5
    case y5 =>
      intro w_
      go_simp
      try with_reducible rfl
    simp only [Act.put, List.getElem_toArray, List.getElem_cons_succ, List.getElem_cons_zero, List.setIfInBounds_toArray, List.set_cons_succ, List.set_cons_zero]
    refine wpAny_take (i := 6) (v := ?v6) rfl (by kernel_rfl) (by kernel_rfl) (by kernel_rfl) (fun _ _ _ h => h) (Or.inl ⟨by rfl, ?y6⟩) ?r6
    case y6 =>
      intro w_
      go_simp
      try with_reducible rfl
    simp only [Act.put, List.getElem_toArray, List.getElem_cons_succ, List.getElem_cons_zero, List.setIfInBounds_toArray, List.set_cons_succ, List.set_cons_zero]
    refine wpAny_take (i := 7) (v := ?v7) rfl (by kernel_rfl) (by kernel_rfl) (by kernel_rfl) (fun _ _ _ h => h) (Or.inl ⟨by rfl, ?y7⟩) ?r7
    case y7 =>
      intro w_
      go_simp
      try with_reducible rfl
    simp only [Act.put, List.getElem_toArray, List.getElem_cons_succ, List.getElem_cons_zero, List.setIfInBounds_toArray, List.set_cons_succ, List.set_cons_zero]
    refine wpAny_take (i := 8) (v := ?v8) rfl (by kernel_rfl) (by kernel_rfl) (by kernel_rfl) (fun _ _ _ h => h) (Or.inl ⟨by rfl, ?y8⟩) ?r8
    case y8 =>
      intro w_
      go_simp
      try with_reducible rfl
    simp only [Act.put, List.getElem_toArray, List.getElem_cons_succ, List.getElem_cons_zero, List.setIfInBounds_toArray, List.set_cons_succ, List.set_cons_zero]
    refine wpAny_ready (rs := [4, 11]) (fuel := 4) (by kernel_rfl) (by simp) (AllReady.cons rfl (fun K' hK => ?_) (AllReady.cons rfl (fun K' hK => ?_) AllReady.nil))
    · rw [if_pos (by kernel_rfl)]
      simp only [List.getElem_toArray, List.getElem_cons_succ, List.getElem_cons_zero]
      refine wp_call_ex (f := 14) (R := fun v W' => ∃ g, v = .pointer (some ⟨g, 0, none⟩) ∧ wd.heap.size ≤ g ∧ W'.heap[g]? = some (.cells (mst key E) 46 (0, 0)) ∧ Below wd.heap.size wd W') (by kernel_rfl) ((cN1.out wd f0 f4 (Bys.of_prefix rk (by omega) zK _) (fun a l c h => by cases h; omega)).mono fun e W' ⟨g, h1, h2⟩ => ⟨_, h1, g, rfl, h2⟩) (fun v_ q1 hX_ => hK _ _ ?_)
      simp only [Act.put, List.setIfInBounds_toArray, List.set_cons_succ, List.set_cons_zero]
      clear hK
      obtain ⟨gM0, rfl, logM0, rM0, hb_⟩ := hX_
      have szgM0 := hb_.size
      have ltgM0 := lt_of_row rM0
      replace rk := keep hb_ rk
      replace rl := keep hb_ rl
      replace f0 := f0.below hb_
      replace f4 := f4.below hb_
      replace hw := Below.after hw hb_
      replace hsB := Nat.le_trans hsB hb_.size
      clear hb_
      refine wpAny_ready (rs := [9, 11]) (fuel := 3) (by kernel_rfl) (by simp) (AllReady.cons rfl (fun K' hK => ?_) (AllReady.cons rfl (fun K' hK => ?_) AllReady.nil))
      · rw [if_pos (by kernel_rfl)]
        simp only [List.getElem_toArray, List.getElem_cons_succ, List.getElem_cons_zero]
        refine wp_call_ex (f := 14) (R := fun v W' => ∃ g, v = .pointer (some ⟨g, 0, none⟩) ∧ q1.heap.size ≤ g ∧ W'.heap[g]? = some (.cells (mst sec E) 46 (0, 0)) ∧ Below q1.heap.size q1 W') (by kernel_rfl) ((cN2.out q1 gl f0 f4 (Bys.of_prefix rl (by omega) zS _) (fun a l c h => by cases h; omega)).mono fun e W' ⟨g, h1, h2⟩ => ⟨_, h1, g, rfl, h2⟩) (fun v_ q2 hX_ => hK _ _ ?_)
        simp only [Act.put, List.setIfInBounds_toArray, List.set_cons_succ, List.set_cons_zero]
        clear hK
        obtain ⟨gM1, rfl, logM1, rM1, hb_⟩ := hX_
        have szgM1 := hb_.size
        have ltgM1 := lt_of_row rM1
        replace rk := keep hb_ rk
        replace rl := keep hb_ rl
        replace rM0 := keep hb_ rM0
        replace f0 := f0.below hb_
        replace f4 := f4.below hb_
        replace hw := Below.after hw hb_
        replace hsB := Nat.le_trans hsB hb_.size
        clear hb_
        refine wpAny_ready (rs := [10, 11]) (fuel := 2) (by kernel_rfl) (by simp) (AllReady.cons rfl (fun K' hK => ?_) (AllReady.cons rfl (fun K' hK => ?_) AllReady.nil))
        · rw [if_pos (by kernel_rfl)]
          simp only [List.getElem_toArray, List.getElem_cons_succ, List.getElem_cons_zero]
          refine wp_pure_op (.agg #[.pointer (some ⟨gM0, 0, none⟩), .pointer (some ⟨gM1, 0, none⟩)]) (by kernel_rfl) (hK _ _ ?_)
          simp only [Act.put, List.setIfInBounds_toArray, List.set_cons_succ, List.set_cons_zero]
          clear hK
          refine wpAny_ready (rs := [11]) (fuel := 1) (by kernel_rfl) (by simp) (AllReady.cons rfl (fun K' hK => ?_) AllReady.nil)
          rw [if_pos (by kernel_rfl)]
          simp only [List.getElem_toArray, List.getElem_cons_succ, List.getElem_cons_zero]
          have hsB_ := hsB
          refine wp_world_op (.pointer (some ⟨q2.heap.size, 0, none⟩)) (q2.alloc (.cells #[.pointer none, .pointer none] 32)) (by kernel_rfl) (hK _ _ ?_)
          simp only [Act.put, List.setIfInBounds_toArray, List.set_cons_succ, List.set_cons_zero]
          clear hK
          have hb_ : Below q2.heap.size q2 (q2.alloc (.cells #[.pointer none, .pointer none] 32)) := (Below.refl _ _).alloc (Nat.le_refl _) _
          have r9 := hp1_0 q2 (.cells #[.pointer none, .pointer none] 32)
          replace rk := keep hb_ rk
          replace rl := keep hb_ rl
          replace rM0 := keep hb_ rM0
          replace rM1 := keep hb_ rM1
          replace f0 := f0.below hb_
          replace f4 := f4.below hb_
          replace hw := Below.after hw hb_
          replace hsB := Nat.le_trans hsB hb_.size
          clear hb_
          generalize q2.alloc (.cells #[.pointer none, .pointer none] 32) = q3 at *
          have lo9 : B2 ≤ q2.heap.size := hsB_
          generalize e9 : q2.heap.size = g4 at r9 lo9 ⊢
          replace e9 := hide e9
          have lt9 := lt_of_row r9
          refine wpAny_ready (rs := [12]) (fuel := 0) (by kernel_rfl) (by simp) (AllReady.cons rfl (fun K' hK => ?_) AllReady.nil)
          rw [if_pos (by kernel_rfl)]
          simp only [List.getElem_toArray, List.getElem_cons_succ, List.getElem_cons_zero]
          refine wp_store_row 32 _ _ rfl (g4) #[.pointer (some ⟨gM0, 0, none⟩), .pointer (some ⟨gM1, 0, none⟩)] rfl rfl 32 _ r9 rfl rfl (by simp [Value.oneCell']) (hK _ _ ?_)
          simp only [Act.put]
          clear hK
          have e9_ := e9.out
          have x9 := lt_of_row r9
          replace r9 := setRow_heap q3 (g4) _ #[.pointer (some ⟨gM0, 0, none⟩), .pointer (some ⟨gM1, 0, none⟩)] _ _ r9
          replace rM0 := (setRow_other q3 (g4) gM0 #[.pointer (some ⟨gM0, 0, none⟩), .pointer (some ⟨gM1, 0, none⟩)] (by omega)).trans rM0
          replace rM1 := (setRow_other q3 (g4) gM1 #[.pointer (some ⟨gM0, 0, none⟩), .pointer (some ⟨gM1, 0, none⟩)] (by omega)).trans rM1
          replace hw := below_setRow hw (show w.heap.size ≤ g4 by omega) #[.pointer (some ⟨gM0, 0, none⟩), .pointer (some ⟨gM1, 0, none⟩)]
          replace rk := (setRow_other q3 (g4) w.heap.size #[.pointer (some ⟨gM0, 0, none⟩), .pointer (some ⟨gM1, 0, none⟩)] (by omega)).trans rk
          replace rl := (setRow_other q3 (g4) gl #[.pointer (some ⟨gM0, 0, none⟩), .pointer (some ⟨gM1, 0, none⟩)] (by omega)).trans rl
          have hfin : w.heap.size ≤ g4 ∧ w.heap.size ≤ gM0 ∧ w.heap.size ≤ gM1 ∧ g4 ≠ gM0 ∧ g4 ≠ gM1 ∧ gM0 ≠ gM1 ∧ gl < g4 ∧ gl < gM0 ∧ gl < gM1 := by omega
          generalize q3.setRow (g4) #[.pointer (some ⟨gM0, 0, none⟩), .pointer (some ⟨gM1, 0, none⟩)] = q5 at *
          exact cut_to (key_ g4 gM0 gM1 _ ⟨r9, rM0, rM1, rk, rl, hfin, hw⟩) (by kernel_rfl)
        · rw [if_pos (by kernel_rfl)]
          simp only [List.getElem_toArray, List.getElem_cons_succ, List.getElem_cons_zero]
          have hsB_ := hsB
          refine wp_world_op (.pointer (some ⟨q2.heap.size, 0, none⟩)) (q2.alloc (.cells #[.pointer none, .pointer none] 32)) (by kernel_rfl) (hK _ _ ?_)
          simp only [Act.put, List.setIfInBounds_toArray, List.set_cons_succ, List.set_cons_zero]
          clear hK
          have hb_ : Below q2.heap.size q2 (q2.alloc (.cells #[.pointer none, .pointer none] 32)) := (Below.refl _ _).alloc (Nat.le_refl _) _
          have r9 := hp1_0 q2 (.cells #[.pointer none, .pointer none] 32)
          replace rk := keep hb_ rk
          replace rl := keep hb_ rl
          replace rM0 := keep hb_ rM0
          replace rM1 := keep hb_ rM1
          replace f0 := f0.below hb_
          replace f4 := f4.below hb_
          replace hw := Below.after hw hb_
          replace hsB := Nat.le_trans hsB hb_.size
          clear hb_
          generalize q2.alloc (.cells #[.pointer none, .pointer none] 32) = q6 at *
          have lo9 : B2 ≤ q2.heap.size := hsB_
          generalize e9 : q2.heap.size = g7 at r9 lo9 ⊢
          replace e9 := hide e9
          have lt9 := lt_of_row r9
          refine wpAny_ready (rs := [10]) (fuel := 1) (by kernel_rfl) (by simp) (AllReady.cons rfl (fun K' hK => ?_) AllReady.nil)
          rw [if_pos (by kernel_rfl)]
          simp only [List.getElem_toArray, List.getElem_cons_succ, List.getElem_cons_zero]
          refine wp_pure_op (.agg #[.pointer (some ⟨gM0, 0, none⟩), .pointer (some ⟨gM1, 0, none⟩)]) (by kernel_rfl) (hK _ _ ?_)
          simp only [Act.put, List.setIfInBounds_toArray, List.set_cons_succ, List.set_cons_zero]
          clear hK
          refine wpAny_ready (rs := [12]) (fuel := 0) (by kernel_rfl) (by simp) (AllReady.cons rfl (fun K' hK => ?_) AllReady.nil)
          rw [if_pos (by kernel_rfl)]
          simp only [List.getElem_toArray, List.getElem_cons_succ, List.getElem_cons_zero]
          refine wp_store_row 32 _ _ rfl (g7) #[.pointer (some ⟨gM0, 0, none⟩), .pointer (some ⟨gM1, 0, none⟩)] rfl rfl 32 _ r9 rfl rfl (by simp [Value.oneCell']) (hK _ _ ?_)
          simp only [Act.put]
          clear hK
          have e9_ := e9.out
          have x9 := lt_of_row r9
          replace r9 := setRow_heap q6 (g7) _ #[.pointer (some ⟨gM0, 0, none⟩), .pointer (some ⟨gM1, 0, none⟩)] _ _ r9
          replace rM0 := (setRow_other q6 (g7) gM0 #[.pointer (some ⟨gM0, 0, none⟩), .pointer (some ⟨gM1, 0, none⟩)] (by omega)).trans rM0
          replace rM1 := (setRow_other q6 (g7) gM1 #[.pointer (some ⟨gM0, 0, none⟩), .pointer (some ⟨gM1, 0, none⟩)] (by omega)).trans rM1
          replace hw := below_setRow hw (show w.heap.size ≤ g7 by omega) #[.pointer (some ⟨gM0, 0, none⟩), .pointer (some ⟨gM1, 0, none⟩)]
          replace rk := (setRow_other q6 (g7) w.heap.size #[.pointer (some ⟨gM0, 0, none⟩), .pointer (some ⟨gM1, 0, none⟩)] (by omega)).trans rk
          replace rl := (setRow_other q6 (g7) gl #[.pointer (some ⟨gM0, 0, none⟩), .pointer (some ⟨gM1, 0, none⟩)] (by omega)).trans rl
          have hfin : w.heap.size ≤ g7 ∧ w.heap.size ≤ gM0 ∧ w.heap.size ≤ gM1 ∧ g7 ≠ gM0 ∧ g7 ≠ gM1 ∧ gM0 ≠ gM1 ∧ gl < g7 ∧ gl < gM0 ∧ gl < gM1 := by omega
          generalize q6.setRow (g7) #[.pointer (some ⟨gM0, 0, none⟩), .pointer (some ⟨gM1, 0, none⟩)] = q8 at *
          exact cut_to (key_ g7 gM0 gM1 _ ⟨r9, rM0, rM1, rk, rl, hfin, hw⟩) (by kernel_rfl)
      · rw [if_pos (by kernel_rfl)]
        simp only [List.getElem_toArray, List.getElem_cons_succ, List.getElem_cons_zero]
        have hsB_ := hsB
        refine wp_world_op (.pointer (some ⟨q1.heap.size, 0, none⟩)) (q1.alloc (.cells #[.pointer none, .pointer none] 32)) (by kernel_rfl) (hK _ _ ?_)
        simp only [Act.put, List.setIfInBounds_toArray, List.set_cons_succ, List.set_cons_zero]
        clear hK
        have hb_ : Below q1.heap.size q1 (q1.alloc (.cells #[.pointer none, .pointer none] 32)) := (Below.refl _ _).alloc (Nat.le_refl _) _
        have r9 := hp1_0 q1 (.cells #[.pointer none, .pointer none] 32)
        replace rk := keep hb_ rk
        replace rl := keep hb_ rl
        replace rM0 := keep hb_ rM0
        replace f0 := f0.below hb_
        replace f4 := f4.below hb_
        replace hw := Below.after hw hb_
        replace hsB := Nat.le_trans hsB hb_.size
        clear hb_
        generalize q1.alloc (.cells #[.pointer none, .pointer none] 32) = q9 at *
        have lo9 : B2 ≤ q1.heap.size := hsB_
        generalize e9 : q1.heap.size = g10 at r9 lo9 ⊢
        replace e9 := hide e9
        have lt9 := lt_of_row r9
        refine wpAny_ready (rs := [9]) (fuel := 2) (by kernel_rfl) (by simp) (AllReady.cons rfl (fun K' hK => ?_) AllReady.nil)
        rw [if_pos (by kernel_rfl)]
        simp only [List.getElem_toArray, List.getElem_cons_succ, List.getElem_cons_zero]
        refine wp_call_ex (f := 14) (R := fun v W' => ∃ g, v = .pointer (some ⟨g, 0, none⟩) ∧ q9.heap.size ≤ g ∧ W'.heap[g]? = some (.cells (mst sec E) 46 (0, 0)) ∧ Below q9.heap.size q9 W') (by kernel_rfl) ((cN2.out q9 gl f0 f4 (Bys.of_prefix rl (by omega) zS _) (fun a l c h => by cases h; omega)).mono fun e W' ⟨g, h1, h2⟩ => ⟨_, h1, g, rfl, h2⟩) (fun v_ q11 hX_ => hK _ _ ?_)
        simp only [Act.put, List.setIfInBounds_toArray, List.set_cons_succ, List.set_cons_zero]
        clear hK
        obtain ⟨gM1, rfl, logM1, rM1, hb_⟩ := hX_
        have szgM1 := hb_.size
        have ltgM1 := lt_of_row rM1
        replace rk := keep hb_ rk
        replace rl := keep hb_ rl
        replace rM0 := keep hb_ rM0
        replace r9 := keep hb_ r9
        replace f0 := f0.below hb_
        replace f4 := f4.below hb_
        replace hw := Below.after hw hb_
        replace hsB := Nat.le_trans hsB hb_.size
        clear hb_
        refine wpAny_ready (rs := [10]) (fuel := 1) (by kernel_rfl) (by simp) (AllReady.cons rfl (fun K' hK => ?_) AllReady.nil)
        rw [if_pos (by kernel_rfl)]
        simp only [List.getElem_toArray, List.getElem_cons_succ, List.getElem_cons_zero]
        refine wp_pure_op (.agg #[.pointer (some ⟨gM0, 0, none⟩), .pointer (some ⟨gM1, 0, none⟩)]) (by kernel_rfl) (hK _ _ ?_)
        simp only [Act.put, List.setIfInBounds_toArray, List.set_cons_succ, List.set_cons_zero]
        clear hK
        refine wpAny_ready (rs := [12]) (fuel := 0) (by kernel_rfl) (by simp) (AllReady.cons rfl (fun K' hK => ?_) AllReady.nil)
        rw [if_pos (by kernel_rfl)]
        simp only [List.getElem_toArray, List.getElem_cons_succ, List.getElem_cons_zero]
        refine wp_store_row 32 _ _ rfl (g10) #[.pointer (some ⟨gM0, 0, none⟩), .pointer (some ⟨gM1, 0, none⟩)] rfl rfl 32 _ r9 rfl rfl (by simp [Value.oneCell']) (hK _ _ ?_)
        simp only [Act.put]
        clear hK
        have e9_ := e9.out
        have x9 := lt_of_row r9
        replace r9 := setRow_heap q11 (g10) _ #[.pointer (some ⟨gM0, 0, none⟩), .pointer (some ⟨gM1, 0, none⟩)] _ _ r9
        replace rM0 := (setRow_other q11 (g10) gM0 #[.pointer (some ⟨gM0, 0, none⟩), .pointer (some ⟨gM1, 0, none⟩)] (by omega)).trans rM0
        replace rM1 := (setRow_other q11 (g10) gM1 #[.pointer (some ⟨gM0, 0, none⟩), .pointer (some ⟨gM1, 0, none⟩)] (by omega)).trans rM1
        replace hw := below_setRow hw (show w.heap.size ≤ g10 by omega) #[.pointer (some ⟨gM0, 0, none⟩), .pointer (some ⟨gM1, 0, none⟩)]
        replace rk := (setRow_other q11 (g10) w.heap.size #[.pointer (some ⟨gM0, 0, none⟩), .pointer (some ⟨gM1, 0, none⟩)] (by omega)).trans rk
        replace rl := (setRow_other q11 (g10) gl #[.pointer (some ⟨gM0, 0, none⟩), .pointer (some ⟨gM1, 0, none⟩)] (by omega)).trans rl
        have hfin : w.heap.size ≤ g10 ∧ w.heap.size ≤ gM0 ∧ w.heap.size ≤ gM1 ∧ g10 ≠ gM0 ∧ g10 ≠ gM1 ∧ gM0 ≠ gM1 ∧ gl < g10 ∧ gl < gM0 ∧ gl < gM1 := by omega
        generalize q11.setRow (g10) #[.pointer (some ⟨gM0, 0, none⟩), .pointer (some ⟨gM1, 0, none⟩)] = q12 at *
        exact cut_to (key_ g10 gM0 gM1 _ ⟨r9, rM0, rM1, rk, rl, hfin, hw⟩) (by kernel_rfl)
    · rw [if_pos (by kernel_rfl)]
      simp only [List.getElem_toArray, List.getElem_cons_succ, List.getElem_cons_zero]
      have hsB_ := hsB
      refine wp_world_op (.pointer (some ⟨wd.heap.size, 0, none⟩)) (wd.alloc (.cells #[.pointer none, .pointer none] 32)) (by kernel_rfl) (hK _ _ ?_)
      simp only [Act.put, List.setIfInBounds_toArray, List.set_cons_succ, List.set_cons_zero]
      clear hK
      have hb_ : Below wd.heap.size wd (wd.alloc (.cells #[.pointer none, .pointer none] 32)) := (Below.refl _ _).alloc (Nat.le_refl _) _
      have r9 := hp1_0 wd (.cells #[.pointer none, .pointer none] 32)
      replace rk := keep hb_ rk
      replace rl := keep hb_ rl
      replace f0 := f0.below hb_
      replace f4 := f4.below hb_
      replace hw := Below.after hw hb_
      replace hsB := Nat.le_trans hsB hb_.size
      clear hb_
      generalize wd.alloc (.cells #[.pointer none, .pointer none] 32) = q13 at *
      have lo9 : B2 ≤ wd.heap.size := hsB_
      generalize e9 : wd.heap.size = g14 at r9 lo9 ⊢
      replace e9 := hide e9
      have lt9 := lt_of_row r9
      refine wpAny_ready (rs := [4]) (fuel := 3) (by kernel_rfl) (by simp) (AllReady.cons rfl (fun K' hK => ?_) AllReady.nil)
      rw [if_pos (by kernel_rfl)]
      simp only [List.getElem_toArray, List.getElem_cons_succ, List.getElem_cons_zero]
      refine wp_call_ex (f := 14) (R := fun v W' => ∃ g, v = .pointer (some ⟨g, 0, none⟩) ∧ q13.heap.size ≤ g ∧ W'.heap[g]? = some (.cells (mst key E) 46 (0, 0)) ∧ Below q13.heap.size q13 W') (by kernel_rfl) ((cN1.out q13 f0 f4 (Bys.of_prefix rk (by omega) zK _) (fun a l c h => by cases h; omega)).mono fun e W' ⟨g, h1, h2⟩ => ⟨_, h1, g, rfl, h2⟩) (fun v_ q15 hX_ => hK _ _ ?_)
      simp only [Act.put, List.setIfInBounds_toArray, List.set_cons_succ, List.set_cons_zero]
      clear hK
      obtain ⟨gM0, rfl, logM0, rM0, hb_⟩ := hX_
      have szgM0 := hb_.size
      have ltgM0 := lt_of_row rM0
      replace rk := keep hb_ rk
      replace rl := keep hb_ rl
      replace r9 := keep hb_ r9
      replace f0 := f0.below hb_
      replace f4 := f4.below hb_
      replace hw := Below.after hw hb_
      replace hsB := Nat.le_trans hsB hb_.size
      clear hb_
      refine wpAny_ready (rs := [9]) (fuel := 2) (by kernel_rfl) (by simp) (AllReady.cons rfl (fun K' hK => ?_) AllReady.nil)
      rw [if_pos (by kernel_rfl)]
      simp only [List.getElem_toArray, List.getElem_cons_succ, List.getElem_cons_zero]
      refine wp_call_ex (f := 14) (R := fun v W' => ∃ g, v = .pointer (some ⟨g, 0, none⟩) ∧ q15.heap.size ≤ g ∧ W'.heap[g]? = some (.cells (mst sec E) 46 (0, 0)) ∧ Below q15.heap.size q15 W') (by kernel_rfl) ((cN2.out q15 gl f0 f4 (Bys.of_prefix rl (by omega) zS _) (fun a l c h => by cases h; omega)).mono fun e W' ⟨g, h1, h2⟩ => ⟨_, h1, g, rfl, h2⟩) (fun v_ q16 hX_ => hK _ _ ?_)
      simp only [Act.put, List.setIfInBounds_toArray, List.set_cons_succ, List.set_cons_zero]
      clear hK
      obtain ⟨gM1, rfl, logM1, rM1, hb_⟩ := hX_
      have szgM1 := hb_.size
      have ltgM1 := lt_of_row rM1
      replace rk := keep hb_ rk
      replace rl := keep hb_ rl
      replace r9 := keep hb_ r9
      replace rM0 := keep hb_ rM0
      replace f0 := f0.below hb_
      replace f4 := f4.below hb_
      replace hw := Below.after hw hb_
      replace hsB := Nat.le_trans hsB hb_.size
      clear hb_
      refine wpAny_ready (rs := [10]) (fuel := 1) (by kernel_rfl) (by simp) (AllReady.cons rfl (fun K' hK => ?_) AllReady.nil)
      rw [if_pos (by kernel_rfl)]
      simp only [List.getElem_toArray, List.getElem_cons_succ, List.getElem_cons_zero]
      refine wp_pure_op (.agg #[.pointer (some ⟨gM0, 0, none⟩), .pointer (some ⟨gM1, 0, none⟩)]) (by kernel_rfl) (hK _ _ ?_)
      simp only [Act.put, List.setIfInBounds_toArray, List.set_cons_succ, List.set_cons_zero]
      clear hK
      refine wpAny_ready (rs := [12]) (fuel := 0) (by kernel_rfl) (by simp) (AllReady.cons rfl (fun K' hK => ?_) AllReady.nil)
      rw [if_pos (by kernel_rfl)]
      simp only [List.getElem_toArray, List.getElem_cons_succ, List.getElem_cons_zero]
      refine wp_store_row 32 _ _ rfl (g14) #[.pointer (some ⟨gM0, 0, none⟩), .pointer (some ⟨gM1, 0, none⟩)] rfl rfl 32 _ r9 rfl rfl (by simp [Value.oneCell']) (hK _ _ ?_)
      simp only [Act.put]
      clear hK
      have e9_ := e9.out
      have x9 := lt_of_row r9
      replace r9 := setRow_heap q16 (g14) _ #[.pointer (some ⟨gM0, 0, none⟩), .pointer (some ⟨gM1, 0, none⟩)] _ _ r9
      replace rM0 := (setRow_other q16 (g14) gM0 #[.pointer (some ⟨gM0, 0, none⟩), .pointer (some ⟨gM1, 0, none⟩)] (by omega)).trans rM0
      replace rM1 := (setRow_other q16 (g14) gM1 #[.pointer (some ⟨gM0, 0, none⟩), .pointer (some ⟨gM1, 0, none⟩)] (by omega)).trans rM1
      replace hw := below_setRow hw (show w.heap.size ≤ g14 by omega) #[.pointer (some ⟨gM0, 0, none⟩), .pointer (some ⟨gM1, 0, none⟩)]
      replace rk := (setRow_other q16 (g14) w.heap.size #[.pointer (some ⟨gM0, 0, none⟩), .pointer (some ⟨gM1, 0, none⟩)] (by omega)).trans rk
      replace rl := (setRow_other q16 (g14) gl #[.pointer (some ⟨gM0, 0, none⟩), .pointer (some ⟨gM1, 0, none⟩)] (by omega)).trans rl
      have hfin : w.heap.size ≤ g14 ∧ w.heap.size ≤ gM0 ∧ w.heap.size ≤ gM1 ∧ g14 ≠ gM0 ∧ g14 ≠ gM1 ∧ gM0 ≠ gM1 ∧ gl < g14 ∧ gl < gM0 ∧ gl < gM1 := by omega
      generalize q16.setRow (g14) #[.pointer (some ⟨gM0, 0, none⟩), .pointer (some ⟨gM1, 0, none⟩)] = q17 at *
      exact cut_to (key_ g14 gM0 gM1 _ ⟨r9, rM0, rM1, rk, rl, hfin, hw⟩) (by kernel_rfl)
  · clear rk rl hw f0 f4 hsB
    rintro g9 m0 m1 x0 ⟨r9, rM0, rM1, rk, rl, hfin, hw⟩
    refine wpAny_done (by kernel_rfl) ?_ _
    refine NoPanic.normal ?_
    have l9 := lt_of_row r9
    have lM0 := lt_of_row rM0
    have lM1 := lt_of_row rM1
    go_wp2_with (fail)
    refine (r_mnew key x0 _ (hKy.keep hw) (by omega)).mono ?_
    rintro e_ x1 ⟨q0, vK, rfl, lq0, rq0, oK, bK, hb⟩
    have s1 := hb.size
    have lt0 := lt_of_row rq0
    replace r9 := keep hb r9
    replace rM0 := keep hb rM0
    replace rM1 := keep hb rM1
    replace rk := keep hb rk
    replace rl := keep hb rl
    replace hw := Below.after hw hb
    clear hb
    go_wp2_with (fail)
    refine (r_mnew sec x1 _ (hSe.keep hw) (by omega)).mono ?_
    rintro e_ x2 ⟨q1, vS, rfl, lq1, rq1, oS, bS, hb⟩
    have s2 := hb.size
    have lt1 := lt_of_row rq1
    replace r9 := keep hb r9
    replace rM0 := keep hb rM0
    replace rM1 := keep hb rM1
    replace rk := keep hb rk
    replace rl := keep hb rl
    replace rq0 := keep hb rq0
    replace oK := own_keep oK hb
    replace hw := Below.after hw hb
    clear hb
    have r10 := hp1_0 x2 (.cells #[.pointer (some ⟨q0, 0, none⟩), .pointer (some ⟨q1, 0, none⟩)] 35)
    have hba : Below x2.heap.size x2 (x2.alloc (.cells #[.pointer (some ⟨q0, 0, none⟩), .pointer (some ⟨q1, 0, none⟩)] 35)) := (Below.refl _ _).alloc (Nat.le_refl _) _
    replace r9 := keep hba r9
    replace rM0 := keep hba rM0
    replace rM1 := keep hba rM1
    replace rk := keep hba rk
    replace rl := keep hba rl
    replace rq0 := keep hba rq0
    replace rq1 := keep hba rq1
    replace oK := own_keep oK hba
    replace oS := own_keep oS hba
    replace hw := Below.after hw hba
    clear hba
    have c90 := row2_0 r9
    have c91 := row2_1 r9
    go_wp2_with (first | (refine wpList_alloc rfl 35 rfl #[.pointer none, .pointer none] z10 ?_) | (refine wpList_store_row rfl 35 _ _ rfl (x2.heap.size) #[.pointer (some ⟨q0, 0, none⟩), .pointer (some ⟨q1, 0, none⟩)] rfl rfl 35 _ (hp1_0 x2 _) rfl rfl (by simp [Value.oneCell']) ?_; rw [setRow_alloc_new _ _ _ _ _ _ rfl]) | fail)
    have hs3 := size_alloc1 x2 (.cells #[.pointer (some ⟨q0, 0, none⟩), .pointer (some ⟨q1, 0, none⟩)] 35)
    generalize x2.alloc (.cells #[.pointer (some ⟨q0, 0, none⟩), .pointer (some ⟨q1, 0, none⟩)] 35) = x3 at *
    have hu : Un w.heap.size g9 x2.heap.size m0 m1 q0 q1 := by unfold Un; omega
    have hgg : gl < x2.heap.size := by omega
    have hx0 : w.heap.size < x0.heap.size ∧ gl < x0.heap.size ∧ w.heap.size < x1.heap.size ∧ gl < x1.heap.size ∧ w.heap.size < gl := by omega
    have hxs : x0.heap.size ≤ x1.heap.size ∧ x1.heap.size ≤ x2.heap.size ∧ m0 < x0.heap.size ∧ m1 < x0.heap.size ∧ q0 < x1.heap.size ∧ q1 < x2.heap.size ∧ x1.heap.size ≤ q1 := by omega
    clear hs3
    generalize x2.heap.size = g10 at *
    refine (l_left key w.heap.size x3 _ (hKy.1.keep hw) (by omega) rk).mono ?_
    rintro e_ x4 ⟨rfl, hb⟩
    replace r9 := keep hb r9
    replace rM0 := keep hb rM0
    replace rM1 := keep hb rM1
    replace rk := keep hb rk
    replace rl := keep hb rl
    replace rq0 := keep hb rq0
    replace rq1 := keep hb rq1
    replace r10 := keep hb r10
    replace oK := own_keep oK hb
    replace oS := own_keep oS hb
    replace hw := Below.after hw hb
    clear hb
    go_wp2_with (fail)
    refine (l_left sec gl x4 _ (hSe.1.keep hw) (by omega) rl).mono ?_
    rintro e_ x5 ⟨rfl, hb⟩
    replace r9 := keep hb r9
    replace rM0 := keep hb rM0
    replace rM1 := keep hb rM1
    replace rk := keep hb rk
    replace rl := keep hb rl
    replace rq0 := keep hb rq0
    replace rq1 := keep hb rq1
    replace r10 := keep hb r10
    replace oK := own_keep oK hb
    replace oS := own_keep oS hb
    replace hw := Below.after hw hb
    clear hb c90 c91
    go_wp2_with (fail)
    refine (l_turned key w.heap.size x5 _ (hKy.1.keep hw) (by omega) rk).mono ?_
    rintro e_ x6 ⟨rfl, _, _, hgr⟩
    have l_ := lt_of_row r9
    replace r9 : x6.heap[g9]? = _ := (hgr.block g9 l_ (by intro e; injection e with e; omega)).trans r9
    clear l_
    have l_ := lt_of_row rM0
    replace rM0 : x6.heap[m0]? = _ := (hgr.block m0 l_ (by intro e; injection e with e; omega)).trans rM0
    clear l_
    have l_ := lt_of_row rM1
    replace rM1 : x6.heap[m1]? = _ := (hgr.block m1 l_ (by intro e; injection e with e; omega)).trans rM1
    clear l_
    have l_ := lt_of_row rl
    replace rl : x6.heap[gl]? = _ := (hgr.block gl l_ (by intro e; injection e with e; omega)).trans rl
    clear l_
    have l_ := lt_of_row rq0
    replace rq0 : x6.heap[q0]? = _ := (hgr.block q0 l_ (by intro e; injection e with e; omega)).trans rq0
    clear l_
    have l_ := lt_of_row rq1
    replace rq1 : x6.heap[q1]? = _ := (hgr.block q1 l_ (by intro e; injection e with e; omega)).trans rq1
    clear l_
    have l_ := lt_of_row r10
    replace r10 : x6.heap[g10]? = _ := (hgr.block g10 l_ (by intro e; injection e with e; omega)).trans r10
    clear l_
    replace oK := oK.kept hgr (.inr (by intro e; have := (oK.lt _ e).1; omega))
    replace oS := oS.kept hgr (.inr (by intro e; have := (oS.lt _ e).1; omega))
    replace hw := hw.grown hgr hw.size (fun q h => by injection h with h; omega)
    clear hgr
    go_wp2_with (fail)
    refine (l_turned sec gl x6 _ (hSe.1.keep hw) (by omega) rl).mono ?_
    rintro e_ x7 ⟨rfl, _, _, hgr⟩
    have l_ := lt_of_row r9
    replace r9 : x7.heap[g9]? = _ := (hgr.block g9 l_ (by intro e; injection e with e; omega)).trans r9
    clear l_
    have l_ := lt_of_row rM0
    replace rM0 : x7.heap[m0]? = _ := (hgr.block m0 l_ (by intro e; injection e with e; omega)).trans rM0
    clear l_
    have l_ := lt_of_row rM1
    replace rM1 : x7.heap[m1]? = _ := (hgr.block m1 l_ (by intro e; injection e with e; omega)).trans rM1
    clear l_
    have l_ := lt_of_row rq0
    replace rq0 : x7.heap[q0]? = _ := (hgr.block q0 l_ (by intro e; injection e with e; omega)).trans rq0
    clear l_
    have l_ := lt_of_row rq1
    replace rq1 : x7.heap[q1]? = _ := (hgr.block q1 l_ (by intro e; injection e with e; omega)).trans rq1
    clear l_
    have l_ := lt_of_row r10
    replace r10 : x7.heap[g10]? = _ := (hgr.block g10 l_ (by intro e; injection e with e; omega)).trans r10
    clear l_
    replace oK := oK.kept hgr (.inr (by intro e; have := (oK.lt _ e).1; omega))
    replace oS := oS.kept hgr (.inr (by intro e; have := (oS.lt _ e).1; omega))
    replace hw := hw.grown hgr hw.size (fun q h => by injection h with h; omega)
    clear hgr
    have sK : SB vK m0 m1 q0 q1 := fun a l c e hl => by
      have h1 := (oK.lt a.block (by rw [e]; rfl)).1
      have h2 := bK a.block (by rw [e]; rfl)
      omega
    have sS : SB vS m0 m1 q0 q1 := fun a l c e hl => by
      have h1 := (oS.lt a.block (by rw [e]; rfl)).1
      have h2 := bS a.block (by rw [e]; rfl)
      omega
    have nE : NB x7 (.slice none 0 0) E := by rw [eE.out]; exact nb_nil x7
    have hPI : PI w x7 key sec E E g9 g10 m0 m1 q0 q1 := ⟨r9, r10, rM0, rM1, ⟨vK, _, rq0, NB.of_own oK (by omega) zK, nE, sK, sb_nil _ _ _ _⟩, ⟨vS, _, rq1, NB.of_own oS (by omega) zS, nE, sS, sb_nil _ _ _ _⟩, hw⟩
    clear r9 r10 rM0 rM1 rq0 rq1 oK oS sK sS nE hw bK bS rk rl
    have e0 : (flat ps 0).length = 0 := rfl
    replace e0 := hide e0
    go_wp2
    go_loopw [11] (fun i wr => ∃ (k : Nat) (c1 c2 : List Int), k ≤ np ∧ i = .int .i64 k ∧ PI w wr key sec c1 c2 g9 g10 m0 m1 q0 q1 ∧ c1.length ≤ (flat ps k).length ∧ c2.length ≤ (flat ps k).length ∧ (∀ z ∈ c1, 0 ≤ z ∧ z < 256) ∧ (∀ z ∈ c2, 0 ≤ z ∧ z < 256)) (fun i _ => np - (intOf i).toNat)
    case atStart => exact ⟨0, E, E, by omega, rfl, hPI, by omega, by omega, zE, zE⟩
    case round =>
      clear hPI
      obtain ⟨k, c1, c2, hk, rfl, hI, b1, b2, zc1, zc2⟩ := hrel
      have hw := hI.2.2.2.2.2.2
      have hu2 := id hu
      obtain ⟨u1, u2, u3, u4⟩ := hu2
      have hfk := hfl k
      by_cases hlt : k < np
      · have hd : decide ((k : Int) < (np : Int)) = true := by simp; omega
        obtain ⟨ab, aoff, cs, rfl, hab, hrng, K, O, u, uc, rfl, hBP, hun, hcap⟩ := hpc k hlt
        have zP := bys_bd hBP
        have hF1 := hfn k hlt
        have hf1 := hfl (k + 1)
        rw [hF1, List.length_append] at hf1
        replace hF1 := hide hF1
        clear hpc hfn hfl hfa
        generalize ps.getD k [] = P at *
        generalize flat ps k = Fk at *
        have hc : ∀ W, Below w.heap.size w W → W.cell? ⟨ab, aoff + k * 3, none⟩ = some (.int .i64 K) ∧ W.cell? ⟨ab, aoff + k * 3 + 1, none⟩ = some (.bool O) ∧ W.cell? ⟨ab, aoff + k * 3 + 2, none⟩ = some (.slice u P.length uc) := fun W hW => ⟨(hW.cell (p := ⟨ab, aoff + k * 3, none⟩) hab).trans (hrng 0 _ rfl), (hW.cell (p := ⟨ab, aoff + k * 3 + 1, none⟩) hab).trans (hrng 1 _ rfl), (hW.cell (p := ⟨ab, aoff + k * 3 + 2, none⟩) hab).trans (hrng 2 _ rfl)⟩
        replace hc := hide hc
        clear hrng
        cases O
        · have hO := hf1
          by_cases k1 : K = 1
          · subst k1
            obtain ⟨vK, vC, rR, nK, nC, sK, sC⟩ := id hI.2.2.2.2.1
            have rM := hI.2.2.1
            have r9 := hI.1
            have r10 := hI.2.1
            have sl3 : ∀ g W, _ := fun g W => slice_to (some ⟨g, 0, none⟩) (P.length + 80) (P.length + 80) P.length (by omega) W
            have lts := lt_of_row rM
            have ltq := lt_of_row rR
            have lt9 := lt_of_row r9
            have lta := lt_of_row r10
            obtain ⟨cK, cO, cB⟩ := hc.out wr hw
            have gx := Gx.refl wr m0 q0
            have hKon := hK
            have xm : m0 < wr.heap.size ∧ m1 < wr.heap.size ∧ q0 < wr.heap.size ∧ q1 < wr.heap.size := by
              obtain ⟨_, _, h3, _⟩ := hI.2.2.2.2.1
              obtain ⟨_, _, h4, _⟩ := hI.2.2.2.2.2.1
              exact ⟨lt_of_row hI.2.2.1, lt_of_row hI.2.2.2.1, lt_of_row h3, lt_of_row h4⟩
            have hneP : ∀ a l c, Value.slice (some ⟨wr.heap.size, 0, none⟩) P.length (P.length + 80) = .slice (some a) l c → 0 < l → a.block ≠ m0 := fun a l c h _ => by cases h; show wr.heap.size ≠ m0; omega
            replace hneP := hneP
            go_wp2_with (fail)
            refine (l_hand P wr _ (hBP.keep hw) (by omega)).mono ?_
            rintro e_ y1 ⟨rfl, rin, hb⟩
            replace r9 := keep hb r9
            replace r10 := keep hb r10
            replace rM := keep hb rM
            replace rR := keep hb rR
            replace nC := nC.keep hb
            replace gx := gx.below hb
            replace hw := Below.after hw hb
            clear hb cK cO cB
            go_wp2_with (fail)
            have hbd : Below y1.heap.size y1 y1.drew := below_drN (Below.refl _ _) 1
            replace r9 := keep hbd r9
            replace r10 := keep hbd r10
            replace rM := keep hbd rM
            replace rR := keep hbd rR
            replace rin := keep hbd rin
            replace nC := nC.keep hbd
            replace hw := Below.after hw hbd
            replace gx := gx.below hbd
            clear hbd
            refine wp_region_noPanic ?_
            refine wp_region_any (by kernel_rfl) ?_
            change wpAny _ _ _ _ _ _ _ (World.drew _)
            generalize y1.drew = yd1 at *
            apply cut_at 0 #[true, true, true, true, true, true, true, true, true, true, true, true, true, true] (fun W => W.heap[m0]? = some (.cells (mst key (c1 ++ P)) 46 (0, 0)) ∧ W.heap[g10]? = some (.cells #[.pointer (some ⟨q0, 0, none⟩), .pointer (some ⟨q1, 0, none⟩)] 35 (0, 0)) ∧ W.heap[q0]? = some (.cells #[vK, vC] 65 (0, 0)) ∧ W.heap[wr.heap.size]? = some (.cells (irow .u8 (P ++ mk4 80)) 5 (0, 0)) ∧ NB W vC c1 ∧ Gx wr W m0 q0 ∧ Below w.heap.size w W)
            · intro key_
              refine wpAny_take (i := 0) (v := ?v15) rfl (by kernel_rfl) (by kernel_rfl) (by kernel_rfl) (fun _ _ _ h => h) (Or.inl ⟨by rfl, ?y15⟩) ?r15
              case y15 =>
                intro w_
                go_simp
                try with_reducible rfl
              simp only [Act.put, List.getElem_toArray, List.getElem_cons_zero, List.setIfInBounds_toArray, List.set_cons_succ, List.set_cons_zero]
              refine wpAny_take (i := 1) (v := ?v16) rfl (by kernel_rfl) (by kernel_rfl) (by kernel_rfl) (fun _ _ _ h => h) (Or.inl ⟨by rfl, ?y16⟩) ?r16
              case y16 =>
                intro w_
                go_simp
                try with_reducible rfl
              simp only [Act.put, List.getElem_toArray, List.getElem_cons_succ, List.getElem_cons_zero, List.setIfInBounds_toArray, List.set_cons_succ, List.set_cons_zero]
              refine wpAny_take (i := 5) (v := ?v17) rfl (by kernel_rfl) (by kernel_rfl) (by kernel_rfl) (fun _ _ _ h => h) (Or.inl ⟨by rfl, ?y17⟩) ?r17
              case y17 =>
                intro w_
                go_simp
                try with_reducible rfl
              simp only [Act.put, List.getElem_toArray, List.getElem_cons_succ, List.getElem_cons_zero, List.setIfInBounds_toArray, List.set_cons_succ, List.set_cons_zero]
              refine wpAny_take (i := 6) (v := ?v18) rfl (by kernel_rfl) (by kernel_rfl) (by kernel_rfl) (fun _ _ _ h => h) (Or.inl ⟨by rfl, ?y18⟩) ?r18
              case y18 =>
                intro w_
                go_simp
                try with_reducible rfl
              simp only [Act.put, List.getElem_toArray, List.getElem_cons_succ, List.getElem_cons_zero, List.setIfInBounds_toArray, List.set_cons_succ, List.set_cons_zero]
              refine wpAny_take (i := 7) (v := ?v19) rfl (by kernel_rfl) (by kernel_rfl) (by kernel_rfl) (fun _ _ _ h => h) (Or.inl ⟨by rfl, ?y19⟩) ?r19
              case y19 =>
                intro w_
                go_simp
                try with_reducible rfl
              simp only [Act.put, List.getElem_toArray, List.getElem_cons_succ, List.getElem_cons_zero, List.setIfInBounds_toArray, List.set_cons_succ, List.set_cons_zero]
              refine wpAny_take (i := 8) (v := ?v20) rfl (by kernel_rfl) (by kernel_rfl) (by kernel_rfl) (fun _ _ _ h => h) (Or.inl ⟨by rfl, ?y20⟩) ?r20
              case y20 =>
                intro w_
                go_simp
                try with_reducible rfl
              simp only [Act.put, List.getElem_toArray, List.getElem_cons_succ, List.getElem_cons_zero, List.setIfInBounds_toArray, List.set_cons_succ, List.set_cons_zero]
              refine wpAny_take (i := 9) (v := ?v21) rfl (by kernel_rfl) (by kernel_rfl) (by kernel_rfl) (fun _ _ _ h => h) (Or.inl ⟨by rfl, ?y21⟩) ?r21
              case y21 =>
                intro w_
                go_simp
                try with_reducible rfl
              simp only [Act.put, List.getElem_toArray, List.getElem_cons_succ, List.getElem_cons_zero, List.setIfInBounds_toArray, List.set_cons_succ, List.set_cons_zero]
              refine wpAny_ready (rs := [2, 10]) (fuel := 6) (by kernel_rfl) (by simp) (AllReady.cons rfl (fun K' hK => ?_) (AllReady.cons rfl (fun K' hK => ?_) AllReady.nil))
              · rw [if_pos (by kernel_rfl)]
                simp only [List.getElem_toArray, List.getElem_cons_succ, List.getElem_cons_zero]
                refine wp_pure_op (.pointer (some ⟨m0, 0, none⟩)) (hx_load1 30 _ rfl ⟨g9, 0, none⟩ rfl _ _ (by kernel_rfl) (row2_0 r9)) (hK _ _ ?_)
                simp only [Act.put, List.setIfInBounds_toArray, List.set_cons_succ, List.set_cons_zero]
                clear hK
                refine wpAny_take (i := 3) (v := ?v22) rfl (by kernel_rfl) (by kernel_rfl) (by kernel_rfl) (fun _ _ _ h => h) (Or.inl ⟨by rfl, ?y22⟩) ?r22
                case y22 =>
                  intro w_
                  go_simp
                  try with_reducible rfl
                simp only [Act.put, List.getElem_toArray, List.getElem_cons_succ, List.getElem_cons_zero, List.setIfInBounds_toArray, List.set_cons_succ, List.set_cons_zero]
                refine wpAny_take (i := 4) (v := ?v23) rfl (by kernel_rfl) (by kernel_rfl) (by kernel_rfl) (fun _ _ _ h => h) (Or.inl ⟨by rfl, ?y23⟩) ?r23
                case y23 =>
                  intro w_
                  go_simp
                  try with_reducible rfl
                simp only [Act.put, List.getElem_toArray, List.getElem_cons_succ, List.getElem_cons_zero, List.setIfInBounds_toArray, List.set_cons_succ, List.set_cons_zero]
                refine wpAny_ready (rs := [10]) (fuel := 3) (by kernel_rfl) (by simp) (AllReady.cons rfl (fun K' hK => ?_) AllReady.nil)
                rw [if_pos (by kernel_rfl)]
                simp only [List.getElem_toArray, List.getElem_cons_succ, List.getElem_cons_zero]
                refine wp_pure_op (.slice u P.length uc) (hx_load1 22 _ rfl ⟨ab, aoff + k * 3 + 2, none⟩ rfl _ _ (by kernel_rfl) ((hc.out yd1 hw).2.2)) (hK _ _ ?_)
                simp only [Act.put, List.setIfInBounds_toArray, List.set_cons_succ, List.set_cons_zero]
                clear hK
                refine wpAny_take (i := 11) (v := ?v24) rfl (by kernel_rfl) (by kernel_rfl) (by kernel_rfl) (fun _ _ _ h => h) (Or.inl ⟨by rfl, ?y24⟩) ?r24
                case y24 =>
                  intro w_
                  go_simp
                  try with_reducible rfl
                simp only [Act.put, List.getElem_toArray, List.getElem_cons_succ, List.getElem_cons_zero, List.setIfInBounds_toArray, List.set_cons_succ, List.set_cons_zero]
                refine wpAny_take (i := 12) (v := ?v25) rfl (by kernel_rfl) (by kernel_rfl) (by kernel_rfl) (fun _ _ _ h => h) (Or.inl ⟨by rfl, ?y25⟩) ?r25
                case y25 =>
                  intro w_
                  go_simp
                  try with_reducible rfl
                simp only [Act.put, List.getElem_toArray, List.getElem_cons_succ, List.getElem_cons_zero, List.setIfInBounds_toArray, List.set_cons_succ, List.set_cons_zero]
                refine wpAny_ready (rs := [13]) (fuel := 0) (by kernel_rfl) (by simp) (AllReady.cons rfl (fun K' hK => ?_) AllReady.nil)
                rw [if_pos (by kernel_rfl)]
                simp only [List.getElem_toArray, List.getElem_cons_succ, List.getElem_cons_zero]
                have cW := a_mwrite key c1 P m0 yd1 (.slice (some ⟨wr.heap.size, 0, none⟩) P.length (P.length + 80)) rM (Bys.of_prefix rin (by omega) zP _) hneP (fun a l c h => by cases h; omega) (by omega) (hKon.below hw) zc1 (by omega)
                refine wp_call_ex (f := 16) (by kernel_rfl) (ex1 cW) (fun v_ q20 hX_ => hK _ _ ?_)
                simp only [Act.put, List.setIfInBounds_toArray, List.set_cons_succ, List.set_cons_zero]
                clear hK
                obtain ⟨rfl, rM2, hgr⟩ := hX_
                clear cW
                have l_ := lt_of_row r10
                replace r10 : q20.heap[g10]? = _ := (hgr.block g10 l_ (by intro e; injection e with e; omega)).trans r10
                clear l_
                have l_ := lt_of_row rR
                replace rR : q20.heap[q0]? = _ := (hgr.block q0 l_ (by intro e; injection e with e; omega)).trans rR
                clear l_
                have l_ := lt_of_row rin
                replace rin : q20.heap[wr.heap.size]? = _ := (hgr.block wr.heap.size l_ (by intro e; injection e with e; omega)).trans rin
                clear l_
                replace nC := nC.grown hgr (fun a l c e hl h => by have := sC a l c e hl; injection h with h; omega)
                replace gx := gx.grown hgr (.inl rfl)
                replace hw := hw.grown hgr hw.size (fun q h => by injection h with h; omega)
                exact cut_to (key_  _ ⟨rM2, r10, rR, rin, nC, gx, hw⟩) (by kernel_rfl)
              · rw [if_pos (by kernel_rfl)]
                simp only [List.getElem_toArray, List.getElem_cons_succ, List.getElem_cons_zero]
                refine wp_pure_op (.slice u P.length uc) (hx_load1 22 _ rfl ⟨ab, aoff + k * 3 + 2, none⟩ rfl _ _ (by kernel_rfl) ((hc.out yd1 hw).2.2)) (hK _ _ ?_)
                simp only [Act.put, List.setIfInBounds_toArray, List.set_cons_succ, List.set_cons_zero]
                clear hK
                refine wpAny_take (i := 11) (v := ?v26) rfl (by kernel_rfl) (by kernel_rfl) (by kernel_rfl) (fun _ _ _ h => h) (Or.inl ⟨by rfl, ?y26⟩) ?r26
                case y26 =>
                  intro w_
                  go_simp
                  try with_reducible rfl
                simp only [Act.put, List.getElem_toArray, List.getElem_cons_succ, List.getElem_cons_zero, List.setIfInBounds_toArray, List.set_cons_succ, List.set_cons_zero]
                refine wpAny_take (i := 12) (v := ?v27) rfl (by kernel_rfl) (by kernel_rfl) (by kernel_rfl) (fun _ _ _ h => h) (Or.inl ⟨by rfl, ?y27⟩) ?r27
                case y27 =>
                  intro w_
                  go_simp
                  try with_reducible rfl
                simp only [Act.put, List.getElem_toArray, List.getElem_cons_succ, List.getElem_cons_zero, List.setIfInBounds_toArray, List.set_cons_succ, List.set_cons_zero]
                refine wpAny_ready (rs := [2]) (fuel := 3) (by kernel_rfl) (by simp) (AllReady.cons rfl (fun K' hK => ?_) AllReady.nil)
                rw [if_pos (by kernel_rfl)]
                simp only [List.getElem_toArray, List.getElem_cons_succ, List.getElem_cons_zero]
                refine wp_pure_op (.pointer (some ⟨m0, 0, none⟩)) (hx_load1 30 _ rfl ⟨g9, 0, none⟩ rfl _ _ (by kernel_rfl) (row2_0 r9)) (hK _ _ ?_)
                simp only [Act.put, List.setIfInBounds_toArray, List.set_cons_succ, List.set_cons_zero]
                clear hK
                refine wpAny_take (i := 3) (v := ?v28) rfl (by kernel_rfl) (by kernel_rfl) (by kernel_rfl) (fun _ _ _ h => h) (Or.inl ⟨by rfl, ?y28⟩) ?r28
                case y28 =>
                  intro w_
                  go_simp
                  try with_reducible rfl
                simp only [Act.put, List.getElem_toArray, List.getElem_cons_succ, List.getElem_cons_zero, List.setIfInBounds_toArray, List.set_cons_succ, List.set_cons_zero]
                refine wpAny_take (i := 4) (v := ?v29) rfl (by kernel_rfl) (by kernel_rfl) (by kernel_rfl) (fun _ _ _ h => h) (Or.inl ⟨by rfl, ?y29⟩) ?r29
                case y29 =>
                  intro w_
                  go_simp
                  try with_reducible rfl
                simp only [Act.put, List.getElem_toArray, List.getElem_cons_succ, List.getElem_cons_zero, List.setIfInBounds_toArray, List.set_cons_succ, List.set_cons_zero]
                refine wpAny_ready (rs := [13]) (fuel := 0) (by kernel_rfl) (by simp) (AllReady.cons rfl (fun K' hK => ?_) AllReady.nil)
                rw [if_pos (by kernel_rfl)]
                simp only [List.getElem_toArray, List.getElem_cons_succ, List.getElem_cons_zero]
                have cW := a_mwrite key c1 P m0 yd1 (.slice (some ⟨wr.heap.size, 0, none⟩) P.length (P.length + 80)) rM (Bys.of_prefix rin (by omega) zP _) hneP (fun a l c h => by cases h; omega) (by omega) (hKon.below hw) zc1 (by omega)
                refine wp_call_ex (f := 16) (by kernel_rfl) (ex1 cW) (fun v_ q21 hX_ => hK _ _ ?_)
                simp only [Act.put, List.setIfInBounds_toArray, List.set_cons_succ, List.set_cons_zero]
                clear hK
                obtain ⟨rfl, rM2, hgr⟩ := hX_
                clear cW
                have l_ := lt_of_row r10
                replace r10 : q21.heap[g10]? = _ := (hgr.block g10 l_ (by intro e; injection e with e; omega)).trans r10
                clear l_
                have l_ := lt_of_row rR
                replace rR : q21.heap[q0]? = _ := (hgr.block q0 l_ (by intro e; injection e with e; omega)).trans rR
                clear l_
                have l_ := lt_of_row rin
                replace rin : q21.heap[wr.heap.size]? = _ := (hgr.block wr.heap.size l_ (by intro e; injection e with e; omega)).trans rin
                clear l_
                replace nC := nC.grown hgr (fun a l c e hl h => by have := sC a l c e hl; injection h with h; omega)
                replace gx := gx.grown hgr (.inl rfl)
                replace hw := hw.grown hgr hw.size (fun q h => by injection h with h; omega)
                exact cut_to (key_  _ ⟨rM2, r10, rR, rin, nC, gx, hw⟩) (by kernel_rfl)
            · clear r9 r10 rM rR rin nC gx hw
              rintro y2 ⟨rM, r10, rR, rin, nC, gx, hw⟩
              refine wpAny_done (by kernel_rfl) ?_ _
              refine NoPanic.normal ?_
              go_wp2_with (fail)
              have hbd : Below y2.heap.size y2 y2.drew := below_drN (Below.refl _ _) 1
              replace rM := keep hbd rM
              replace r10 := keep hbd r10
              replace rR := keep hbd rR
              replace rin := keep hbd rin
              replace nC := nC.keep hbd
              replace hw := Below.after hw hbd
              replace gx := gx.below hbd
              clear hbd
              refine wp_region_noPanic ?_
              refine wp_region_any (by kernel_rfl) ?_
              change wpAny _ _ _ _ _ _ _ (World.drew _)
              generalize y2.drew = yd2 at *
              apply cut_at 0 #[true, true, true, true, true, true, true, true, true] (fun W => ∃ vC', W.heap[m0]? = some (.cells (mst key (c1 ++ P)) 46 (0, 0)) ∧ W.heap[q0]? = some (.cells #[vK, vC'] 65 (0, 0)) ∧ W.heap[wr.heap.size]? = some (.cells (irow .u8 (P ++ mk4 80)) 5 (0, 0)) ∧ NB W vC' (c1 ++ P) ∧ SB vC' m0 m1 q0 q1 ∧ (∀ a l c, vC' = .slice (some a) l c → 0 < l → some wr.heap.size ≠ some a.block) ∧ Gx wr W m0 q0 ∧ Below w.heap.size w W)
              · intro key_
                refine wpAny_take (i := 0) (v := ?v9) rfl (by kernel_rfl) (by kernel_rfl) (by kernel_rfl) (fun _ _ _ h => h) (Or.inl ⟨by rfl, ?y9⟩) ?r9
                case y9 =>
                  intro w_
                  go_simp
                  try with_reducible rfl
                simp only [Act.put, List.getElem_toArray, List.getElem_cons_zero, List.setIfInBounds_toArray, List.set_cons_succ, List.set_cons_zero]
                refine wpAny_take (i := 1) (v := ?v10) rfl (by kernel_rfl) (by kernel_rfl) (by kernel_rfl) (fun _ _ _ h => h) (Or.inl ⟨by rfl, ?y10⟩) ?r10
                case y10 =>
                  intro w_
                  go_simp
                  try with_reducible rfl
                simp only [Act.put, List.getElem_toArray, List.getElem_cons_succ, List.getElem_cons_zero, List.setIfInBounds_toArray, List.set_cons_succ, List.set_cons_zero]
                refine wpAny_take (i := 3) (v := ?v11) rfl (by kernel_rfl) (by kernel_rfl) (by kernel_rfl) (fun _ _ _ h => h) (Or.inl ⟨by rfl, ?y11⟩) ?r11
                case y11 =>
                  intro w_
                  go_simp
                  try with_reducible rfl
                simp only [Act.put, List.getElem_toArray, List.getElem_cons_succ, List.getElem_cons_zero, List.setIfInBounds_toArray, List.set_cons_succ, List.set_cons_zero]
                refine wpAny_take (i := 4) (v := ?v12) rfl (by kernel_rfl) (by kernel_rfl) (by kernel_rfl) (fun _ _ _ h => h) (Or.inl ⟨by rfl, ?y12⟩) ?r12
                case y12 =>
                  intro w_
                  go_simp
                  try with_reducible rfl
                simp only [Act.put, List.getElem_toArray, List.getElem_cons_succ, List.getElem_cons_zero, List.setIfInBounds_toArray, List.set_cons_succ, List.set_cons_zero]
                refine wpAny_take (i := 5) (v := ?v13) rfl (by kernel_rfl) (by kernel_rfl) (by kernel_rfl) (fun _ _ _ h => h) (Or.inl ⟨by rfl, ?y13⟩) ?r13
                case y13 =>
                  intro w_
                  go_simp
                  try with_reducible rfl
                simp only [Act.put, List.getElem_toArray, List.getElem_cons_succ, List.getElem_cons_zero, List.setIfInBounds_toArray, List.set_cons_succ, List.set_cons_zero]
                refine wpAny_take (i := 6) (v := ?v14) rfl (by kernel_rfl) (by kernel_rfl) (by kernel_rfl) (fun _ _ _ h => h) (Or.inl ⟨by rfl, ?y14⟩) ?r14
                case y14 =>
                  intro w_
                  go_simp
                  try with_reducible rfl
                simp only [Act.put, List.getElem_toArray, List.getElem_cons_succ, List.getElem_cons_zero, List.setIfInBounds_toArray, List.set_cons_succ, List.set_cons_zero]
                refine wpAny_ready (rs := [2, 7]) (fuel := 2) (by kernel_rfl) (by simp) (AllReady.cons rfl (fun K' hK => ?_) (AllReady.cons rfl (fun K' hK => ?_) AllReady.nil))
                · rw [if_pos (by kernel_rfl)]
                  simp only [List.getElem_toArray, List.getElem_cons_succ, List.getElem_cons_zero]
                  refine wp_pure_op (.pointer (some ⟨q0, 0, none⟩)) (hx_load1 33 _ rfl ⟨g10, 0, none⟩ rfl _ _ (by kernel_rfl) (row2_0 r10)) (hK _ _ ?_)
                  simp only [Act.put, List.setIfInBounds_toArray, List.set_cons_succ, List.set_cons_zero]
                  clear hK
                  refine wpAny_ready (rs := [7]) (fuel := 1) (by kernel_rfl) (by simp) (AllReady.cons rfl (fun K' hK => ?_) AllReady.nil)
                  rw [if_pos (by kernel_rfl)]
                  simp only [List.getElem_toArray, List.getElem_cons_succ, List.getElem_cons_zero]
                  refine wp_pure_op (.slice u P.length uc) (hx_load1 22 _ rfl ⟨ab, aoff + k * 3 + 2, none⟩ rfl _ _ (by kernel_rfl) ((hc.out yd2 hw).2.2)) (hK _ _ ?_)
                  simp only [Act.put, List.setIfInBounds_toArray, List.set_cons_succ, List.set_cons_zero]
                  clear hK
                  refine wpAny_ready (rs := [8]) (fuel := 0) (by kernel_rfl) (by simp) (AllReady.cons rfl (fun K' hK => ?_) AllReady.nil)
                  rw [if_pos (by kernel_rfl)]
                  simp only [List.getElem_toArray, List.getElem_cons_succ, List.getElem_cons_zero]
                  have cR := r_mwrite c1 P q0 yd2 vK vC (.slice u P.length uc) rR nC ⟨hBP.keep hw, fun a l c h ha => by cases h; exact hun ha⟩ (by omega)
                  have l1 := lt_of_row rM
                  have l2 := lt_of_row rin
                  have l3 := gx.1
                  refine wp_call_ex (f := 17) (R := fun v W' => v = .tuple #[] ∧ ∃ vC', W'.heap[q0]? = some (.cells #[vK, vC'] 65 (0, 0)) ∧ W'.ownsRow yd2.heap.size 5 1 vC' (c1 ++ P).length ((c1 ++ P).map (Value.int .u8)) ∧ yd2.grownBy W' (some q0)) (by kernel_rfl) (cR.mono fun e W' ⟨vC', h1, h2⟩ => ⟨_, h1, rfl, vC', h2⟩) (fun v_ q18 hX_ => hK _ _ ?_)
                  simp only [Act.put, List.setIfInBounds_toArray, List.set_cons_succ, List.set_cons_zero]
                  clear hK
                  obtain ⟨rfl, vC', rR3, oC, hgr⟩ := hX_
                  clear cR
                  replace rM : q18.heap[m0]? = _ := (hgr.block m0 (lt_of_row rM) (by intro e; injection e with e; omega)).trans rM
                  replace rin : q18.heap[wr.heap.size]? = _ := (hgr.block wr.heap.size (lt_of_row rin) (by intro e; injection e with e; omega)).trans rin
                  replace gx := gx.grown hgr (.inr (.inl rfl))
                  replace hw := hw.grown hgr hw.size (fun q h => by injection h with h; omega)
                  have nC3 := NB.of_own oC (by rw [List.length_append]; omega) (both_bd zc1 zP)
                  have sC3 : SB vC' m0 m1 q0 q1 := own_SB oC (by omega)
                  have loC : ∀ a l c, vC' = .slice (some a) l c → 0 < l → some wr.heap.size ≠ some a.block := fun a l c e _ h => by
                    have h1 := (oC.lt a.block (by rw [e]; rfl)).1
                    injection h with h
                    omega
                  exact cut_to (key_  _ ⟨vC', rM, rR3, rin, nC3, sC3, loC, gx, hw⟩) (by kernel_rfl)
                · rw [if_pos (by kernel_rfl)]
                  simp only [List.getElem_toArray, List.getElem_cons_succ, List.getElem_cons_zero]
                  refine wp_pure_op (.slice u P.length uc) (hx_load1 22 _ rfl ⟨ab, aoff + k * 3 + 2, none⟩ rfl _ _ (by kernel_rfl) ((hc.out yd2 hw).2.2)) (hK _ _ ?_)
                  simp only [Act.put, List.setIfInBounds_toArray, List.set_cons_succ, List.set_cons_zero]
                  clear hK
                  refine wpAny_ready (rs := [2]) (fuel := 1) (by kernel_rfl) (by simp) (AllReady.cons rfl (fun K' hK => ?_) AllReady.nil)
                  rw [if_pos (by kernel_rfl)]
                  simp only [List.getElem_toArray, List.getElem_cons_succ, List.getElem_cons_zero]
                  refine wp_pure_op (.pointer (some ⟨q0, 0, none⟩)) (hx_load1 33 _ rfl ⟨g10, 0, none⟩ rfl _ _ (by kernel_rfl) (row2_0 r10)) (hK _ _ ?_)
                  simp only [Act.put, List.setIfInBounds_toArray, List.set_cons_succ, List.set_cons_zero]
                  clear hK
                  refine wpAny_ready (rs := [8]) (fuel := 0) (by kernel_rfl) (by simp) (AllReady.cons rfl (fun K' hK => ?_) AllReady.nil)
                  rw [if_pos (by kernel_rfl)]
                  simp only [List.getElem_toArray, List.getElem_cons_succ, List.getElem_cons_zero]
                  have cR := r_mwrite c1 P q0 yd2 vK vC (.slice u P.length uc) rR nC ⟨hBP.keep hw, fun a l c h ha => by cases h; exact hun ha⟩ (by omega)
                  have l1 := lt_of_row rM
                  have l2 := lt_of_row rin
                  have l3 := gx.1
                  refine wp_call_ex (f := 17) (R := fun v W' => v = .tuple #[] ∧ ∃ vC', W'.heap[q0]? = some (.cells #[vK, vC'] 65 (0, 0)) ∧ W'.ownsRow yd2.heap.size 5 1 vC' (c1 ++ P).length ((c1 ++ P).map (Value.int .u8)) ∧ yd2.grownBy W' (some q0)) (by kernel_rfl) (cR.mono fun e W' ⟨vC', h1, h2⟩ => ⟨_, h1, rfl, vC', h2⟩) (fun v_ q19 hX_ => hK _ _ ?_)
                  simp only [Act.put, List.setIfInBounds_toArray, List.set_cons_succ, List.set_cons_zero]
                  clear hK
                  obtain ⟨rfl, vC', rR3, oC, hgr⟩ := hX_
                  clear cR
                  replace rM : q19.heap[m0]? = _ := (hgr.block m0 (lt_of_row rM) (by intro e; injection e with e; omega)).trans rM
                  replace rin : q19.heap[wr.heap.size]? = _ := (hgr.block wr.heap.size (lt_of_row rin) (by intro e; injection e with e; omega)).trans rin
                  replace gx := gx.grown hgr (.inr (.inl rfl))
                  replace hw := hw.grown hgr hw.size (fun q h => by injection h with h; omega)
                  have nC3 := NB.of_own oC (by rw [List.length_append]; omega) (both_bd zc1 zP)
                  have sC3 : SB vC' m0 m1 q0 q1 := own_SB oC (by omega)
                  have loC : ∀ a l c, vC' = .slice (some a) l c → 0 < l → some wr.heap.size ≠ some a.block := fun a l c e _ h => by
                    have h1 := (oC.lt a.block (by rw [e]; rfl)).1
                    injection h with h
                    omega
                  exact cut_to (key_  _ ⟨vC', rM, rR3, rin, nC3, sC3, loC, gx, hw⟩) (by kernel_rfl)
              · clear rM r10 rR rin nC gx hw
                rintro y3 ⟨vC', rM, rR3, rin, nC3, sC3, loC, gx, hw⟩
                refine wpAny_done (by kernel_rfl) ?_ _
                refine NoPanic.normal ?_
                have cc3 := (hc.out y3 hw).2.2
                go_wp2_with (fail)
                refine (l_left P wr.heap.size y3 _ (hBP.keep hw) (by omega) rin).mono ?_
                rintro e_ y4 ⟨rfl, hb⟩
                replace hw := Below.after hw hb
                replace gx := gx.below hb
                replace rM := keep hb rM
                replace rR3 := keep hb rR3
                replace rin := keep hb rin
                replace nC3 := nC3.keep hb
                clear hb cc3
                have cc4 := (hc.out y4 hw).2.2
                go_wp2_with (fail)
                refine (l_turned P wr.heap.size y4 _ (hBP.keep hw) (by omega) rin).mono ?_
                rintro e_ y5 ⟨rfl, _, _, hgr⟩
                replace gx := gx.grown hgr (.inr (.inr (Nat.le_refl _)))
                replace hw := hw.grown hgr hw.size (fun q h => by injection h with h; omega)
                replace rM : y5.heap[m0]? = _ := (hgr.block m0 (lt_of_row rM) (by intro e; injection e with e; omega)).trans rM
                replace rR3 : y5.heap[q0]? = _ := (hgr.block q0 (lt_of_row rR3) (by intro e; injection e with e; omega)).trans rR3
                replace nC3 := nC3.grown hgr loC
                have nK5 : NB y5 vK key := nK.move gx.1 (fun a l c e hl => by
                  have h1 := bys_ne nK.1 a l c e hl
                  have h2 := sK a l c e hl
                  exact gx.2 _ h1 (by omega) (by omega))
                have hI5 := PI.step0 hI hu gx hw rM rR3 nK5 sK nC3 sC3
                clear hgr rM rR3 nC3 nK5 gx cc4 rin loC sC3 hI
                go_wp2
                refine ⟨⟨k + 1, c1 ++ P, c2, by omega, by go_num, hI5, by rw [hF1.out, List.length_append, List.length_append]; omega, by rw [hF1.out, List.length_append]; omega, both_bd zc1 zP, zc2⟩, ?_⟩
                simp [intOf]; omega
          · by_cases k2 : K = 2
            · subst k2
              clear k1
              obtain ⟨vK, vC, rR, nK, nC, sK, sC⟩ := id hI.2.2.2.2.1
              have rM := hI.2.2.1
              have hHl := hm_len key c1
              have cM : GivesB wr 18 #[.pointer (some ⟨m0, 0, none⟩)] (.agg (irow .u8 (hm key c1))) := fun W hW => a_msum key c1 m0 W ((hK.below hw).below hW) (keep hW rM) zc1 (by omega)
              have cR : GivesB wr 19 #[.pointer (some ⟨q0, 0, none⟩)] (.agg (irow .u8 (hm key c1))) := fun W hW => r_msum key c1 q0 W vK vC (keep hW rR) (nK.keep hW) (by omega) (nC.keep hW) (by omega)
              generalize hm key c1 = H at *
              have heq := eqHm H hHl
              have c9 := row2_0 hI.1
              have c10 := row2_0 hI.2.1
              obtain ⟨cK, cO, cB⟩ := hc.out wr hw
              clear rM rR nK nC
              go_wp2_with (fail)
              have k1 : ∀ p : Regrown, (grow (redrawn wr p.d) p.os).cell? ⟨g9, 0, none⟩ = some (.pointer (some ⟨m0, 0, none⟩)) := fun p => cell_regrown (c9) p.d p.os
              have k2 : ∀ p : Regrown, (grow (redrawn wr p.d) p.os).cell? ⟨g10, 0, none⟩ = some (.pointer (some ⟨q0, 0, none⟩)) := fun p => cell_regrown (c10) p.d p.os
              refine wp_region_quiet_below (by kernel_rfl) (by kernel_rfl) ?_
              go_big_quiet_step (fail)
              go_big_quiet_step (fail)
              go_big_quiet_step (fail)
              go_big_quiet_step (exact cM.re)
              go_big_quiet_step (fail)
              go_big_quiet_step (fail)
              go_big_quiet_step (fail)
              go_big_quiet_step (exact cR.re)
              go_big_quiet_step (fail)
              refine wpQuiet_nil ?_
              rintro _ ⟨p, rfl⟩
              have hb := below_regrown wr p.d p.os
              generalize grow (redrawn wr p.d) p.os = y2 at *
              clear k1 k2
              replace hw := Below.after hw hb
              have hI2 := hI.below hb
              clear hb
              go_wp2
              refine ⟨⟨k + 1, c1, c2, by omega, by go_num, hI2, by rw [hF1.out, List.length_append]; omega, by rw [hF1.out, List.length_append]; omega, zc1, zc2⟩, ?_⟩
              simp [intOf]; omega
            · by_cases k3 : K = 3
              · subst k3
                clear k1 k2
                obtain ⟨vK, vC, rR, nK, nC, sK, sC⟩ := id hI.2.2.2.2.1
                have rM := hI.2.2.1
                have c9 := row2_0 hI.1
                obtain ⟨cK, cO, cB⟩ := hc.out wr hw
                go_wp2_with (fail)
                refine (a_mreset key c1 m0 wr rM).mono ?_
                rintro e_ y2 ⟨rfl, rM2, hgr1⟩
                rw [← eE.out] at rM2
                have gx2 := (Gx.refl wr m0 q0).grown hgr1 (.inl rfl)
                have hw2 := hw.grown hgr1 hw.size (fun q h => by injection h with h; omega)
                have rR2 : y2.heap[q0]? = _ := (hgr1.block q0 (lt_of_row rR) (by intro e; injection e with e; omega)).trans rR
                have c10 := row2_0 ((hgr1.block g10 (lt_of_row hI.2.1) (by intro e; injection e with e; omega)).trans hI.2.1)
                go_wp2_with (fail)
                refine (r_mreset q0 y2 vK vC rR2).mono ?_
                rintro e_ y3 ⟨rfl, rR3, hgr2⟩
                have gx3 := gx2.grown hgr2 (.inr (.inl rfl))
                have hw3 := hw2.grown hgr2 hw2.size (fun q h => by injection h with h; omega)
                have rM3 : y3.heap[m0]? = _ := (hgr2.block m0 (lt_of_row rM2) (by intro e; injection e with e; omega)).trans rM2
                have nK3 : NB y3 vK key := nK.move gx3.1 (fun a l c e hl => by
                  have h1 := bys_ne nK.1 a l c e hl
                  have h2 := sK a l c e hl
                  exact gx3.2 _ h1 (by omega) (by omega))
                have nE3 : NB y3 (.slice none 0 0) E := by rw [eE.out]; exact nb_nil y3
                have hI3 := PI.step0 hI hu gx3 hw3 rM3 rR3 nK3 sK nE3 (sb_nil _ _ _ _)
                clear hgr1 hgr2 rM2 rM3 rR2 rR3 nK3 nE3 gx2 gx3 hw2 hw3
                go_wp2
                refine ⟨⟨k + 1, E, c2, by omega, by go_num, hI3, by rw [hF1.out, List.length_append]; omega, by rw [hF1.out, List.length_append]; omega, zE, zc2⟩, ?_⟩
                simp [intOf]; omega
              · have e1 : (K == 1) = false := beq_eq_false_iff_ne.2 k1
                have e2 : (K == 2) = false := beq_eq_false_iff_ne.2 k2
                have e3 : (K == 3) = false := beq_eq_false_iff_ne.2 k3
                obtain ⟨cK, cO, cB⟩ := hc.out wr hw
                go_wp2
                refine ⟨⟨k + 1, c1, c2, by omega, by go_num, hI, by rw [hF1.out, List.length_append]; omega, by rw [hF1.out, List.length_append]; omega, zc1, zc2⟩, ?_⟩
                simp [intOf]; omega
        · have hO := hf1
          by_cases k1 : K = 1
          · subst k1
            obtain ⟨vK, vC, rR, nK, nC, sK, sC⟩ := id hI.2.2.2.2.2.1
            have rM := hI.2.2.2.1
            have r9 := hI.1
            have r10 := hI.2.1
            have sl3 : ∀ g W, _ := fun g W => slice_to (some ⟨g, 0, none⟩) (P.length + 80) (P.length + 80) P.length (by omega) W
            have lts := lt_of_row rM
            have ltq := lt_of_row rR
            have lt9 := lt_of_row r9
            have lta := lt_of_row r10
            obtain ⟨cK, cO, cB⟩ := hc.out wr hw
            have gx := Gx.refl wr m1 q1
            have hKon := hK
            have xm : m0 < wr.heap.size ∧ m1 < wr.heap.size ∧ q0 < wr.heap.size ∧ q1 < wr.heap.size := by
              obtain ⟨_, _, h3, _⟩ := hI.2.2.2.2.1
              obtain ⟨_, _, h4, _⟩ := hI.2.2.2.2.2.1
              exact ⟨lt_of_row hI.2.2.1, lt_of_row hI.2.2.2.1, lt_of_row h3, lt_of_row h4⟩
            have hneP : ∀ a l c, Value.slice (some ⟨wr.heap.size, 0, none⟩) P.length (P.length + 80) = .slice (some a) l c → 0 < l → a.block ≠ m1 := fun a l c h _ => by cases h; show wr.heap.size ≠ m1; omega
            replace hneP := hneP
            go_wp2_with (fail)
            refine (l_hand P wr _ (hBP.keep hw) (by omega)).mono ?_
            rintro e_ y1 ⟨rfl, rin, hb⟩
            replace r9 := keep hb r9
            replace r10 := keep hb r10
            replace rM := keep hb rM
            replace rR := keep hb rR
            replace nC := nC.keep hb
            replace gx := gx.below hb
            replace hw := Below.after hw hb
            clear hb cK cO cB
            go_wp2_with (fail)
            have hbd : Below y1.heap.size y1 y1.drew := below_drN (Below.refl _ _) 1
            replace r9 := keep hbd r9
            replace r10 := keep hbd r10
            replace rM := keep hbd rM
            replace rR := keep hbd rR
            replace rin := keep hbd rin
            replace nC := nC.keep hbd
            replace hw := Below.after hw hbd
            replace gx := gx.below hbd
            clear hbd
            refine wp_region_noPanic ?_
            refine wp_region_any (by kernel_rfl) ?_
            change wpAny _ _ _ _ _ _ _ (World.drew _)
            generalize y1.drew = yd1 at *
            apply cut_at 0 #[true, true, true, true, true, true, true, true, true, true, true, true, true, true] (fun W => W.heap[m1]? = some (.cells (mst sec (c2 ++ P)) 46 (0, 0)) ∧ W.heap[g10]? = some (.cells #[.pointer (some ⟨q0, 0, none⟩), .pointer (some ⟨q1, 0, none⟩)] 35 (0, 0)) ∧ W.heap[q1]? = some (.cells #[vK, vC] 65 (0, 0)) ∧ W.heap[wr.heap.size]? = some (.cells (irow .u8 (P ++ mk4 80)) 5 (0, 0)) ∧ NB W vC c2 ∧ Gx wr W m1 q1 ∧ Below w.heap.size w W)
            · intro key_
              refine wpAny_take (i := 0) (v := ?v36) rfl (by kernel_rfl) (by kernel_rfl) (by kernel_rfl) (fun _ _ _ h => h) (Or.inl ⟨by rfl, ?y36⟩) ?r36
              case y36 =>
                intro w_
                go_simp
                try with_reducible rfl
              simp only [Act.put, List.getElem_toArray, List.getElem_cons_zero, List.setIfInBounds_toArray, List.set_cons_succ, List.set_cons_zero]
              refine wpAny_take (i := 1) (v := ?v37) rfl (by kernel_rfl) (by kernel_rfl) (by kernel_rfl) (fun _ _ _ h => h) (Or.inl ⟨by rfl, ?y37⟩) ?r37
              case y37 =>
                intro w_
                go_simp
                try with_reducible rfl
              simp only [Act.put, List.getElem_toArray, List.getElem_cons_succ, List.getElem_cons_zero, List.setIfInBounds_toArray, List.set_cons_succ, List.set_cons_zero]
              refine wpAny_take (i := 5) (v := ?v38) rfl (by kernel_rfl) (by kernel_rfl) (by kernel_rfl) (fun _ _ _ h => h) (Or.inl ⟨by rfl, ?y38⟩) ?r38
              case y38 =>
                intro w_
                go_simp
                try with_reducible rfl
              simp only [Act.put, List.getElem_toArray, List.getElem_cons_succ, List.getElem_cons_zero, List.setIfInBounds_toArray, List.set_cons_succ, List.set_cons_zero]
              refine wpAny_take (i := 6) (v := ?v39) rfl (by kernel_rfl) (by kernel_rfl) (by kernel_rfl) (fun _ _ _ h => h) (Or.inl ⟨by rfl, ?y39⟩) ?r39
              case y39 =>
                intro w_
                go_simp
                try with_reducible rfl
              simp only [Act.put, List.getElem_toArray, List.getElem_cons_succ, List.getElem_cons_zero, List.setIfInBounds_toArray, List.set_cons_succ, List.set_cons_zero]
              refine wpAny_take (i := 7) (v := ?v40) rfl (by kernel_rfl) (by kernel_rfl) (by kernel_rfl) (fun _ _ _ h => h) (Or.inl ⟨by rfl, ?y40⟩) ?r40
              case y40 =>
                intro w_
                go_simp
                try with_reducible rfl
              simp only [Act.put, List.getElem_toArray, List.getElem_cons_succ, List.getElem_cons_zero, List.setIfInBounds_toArray, List.set_cons_succ, List.set_cons_zero]
              refine wpAny_take (i := 8) (v := ?v41) rfl (by kernel_rfl) (by kernel_rfl) (by kernel_rfl) (fun _ _ _ h => h) (Or.inl ⟨by rfl, ?y41⟩) ?r41
              case y41 =>
                intro w_
                go_simp
                try with_reducible rfl
              simp only [Act.put, List.getElem_toArray, List.getElem_cons_succ, List.getElem_cons_zero, List.setIfInBounds_toArray, List.set_cons_succ, List.set_cons_zero]
              refine wpAny_take (i := 9) (v := ?v42) rfl (by kernel_rfl) (by kernel_rfl) (by kernel_rfl) (fun _ _ _ h => h) (Or.inl ⟨by rfl, ?y42⟩) ?r42
              case y42 =>
                intro w_
                go_simp
                try with_reducible rfl
              simp only [Act.put, List.getElem_toArray, List.getElem_cons_succ, List.getElem_cons_zero, List.setIfInBounds_toArray, List.set_cons_succ, List.set_cons_zero]
              refine wpAny_ready (rs := [2, 10]) (fuel := 6) (by kernel_rfl) (by simp) (AllReady.cons rfl (fun K' hK => ?_) (AllReady.cons rfl (fun K' hK => ?_) AllReady.nil))
              · rw [if_pos (by kernel_rfl)]
                simp only [List.getElem_toArray, List.getElem_cons_succ, List.getElem_cons_zero]
                refine wp_pure_op (.pointer (some ⟨m1, 0, none⟩)) (hx_load1 30 _ rfl ⟨g9, 1, none⟩ rfl _ _ (by kernel_rfl) (row2_1 r9)) (hK _ _ ?_)
                simp only [Act.put, List.setIfInBounds_toArray, List.set_cons_succ, List.set_cons_zero]
                clear hK
                refine wpAny_take (i := 3) (v := ?v43) rfl (by kernel_rfl) (by kernel_rfl) (by kernel_rfl) (fun _ _ _ h => h) (Or.inl ⟨by rfl, ?y43⟩) ?r43
                case y43 =>
                  intro w_
                  go_simp
                  try with_reducible rfl
                simp only [Act.put, List.getElem_toArray, List.getElem_cons_succ, List.getElem_cons_zero, List.setIfInBounds_toArray, List.set_cons_succ, List.set_cons_zero]
                refine wpAny_take (i := 4) (v := ?v44) rfl (by kernel_rfl) (by kernel_rfl) (by kernel_rfl) (fun _ _ _ h => h) (Or.inl ⟨by rfl, ?y44⟩) ?r44
                case y44 =>
                  intro w_
                  go_simp
                  try with_reducible rfl
                simp only [Act.put, List.getElem_toArray, List.getElem_cons_succ, List.getElem_cons_zero, List.setIfInBounds_toArray, List.set_cons_succ, List.set_cons_zero]
                refine wpAny_ready (rs := [10]) (fuel := 3) (by kernel_rfl) (by simp) (AllReady.cons rfl (fun K' hK => ?_) AllReady.nil)
                rw [if_pos (by kernel_rfl)]
                simp only [List.getElem_toArray, List.getElem_cons_succ, List.getElem_cons_zero]
                refine wp_pure_op (.slice u P.length uc) (hx_load1 22 _ rfl ⟨ab, aoff + k * 3 + 2, none⟩ rfl _ _ (by kernel_rfl) ((hc.out yd1 hw).2.2)) (hK _ _ ?_)
                simp only [Act.put, List.setIfInBounds_toArray, List.set_cons_succ, List.set_cons_zero]
                clear hK
                refine wpAny_take (i := 11) (v := ?v45) rfl (by kernel_rfl) (by kernel_rfl) (by kernel_rfl) (fun _ _ _ h => h) (Or.inl ⟨by rfl, ?y45⟩) ?r45
                case y45 =>
                  intro w_
                  go_simp
                  try with_reducible rfl
                simp only [Act.put, List.getElem_toArray, List.getElem_cons_succ, List.getElem_cons_zero, List.setIfInBounds_toArray, List.set_cons_succ, List.set_cons_zero]
                refine wpAny_take (i := 12) (v := ?v46) rfl (by kernel_rfl) (by kernel_rfl) (by kernel_rfl) (fun _ _ _ h => h) (Or.inl ⟨by rfl, ?y46⟩) ?r46
                case y46 =>
                  intro w_
                  go_simp
                  try with_reducible rfl
                simp only [Act.put, List.getElem_toArray, List.getElem_cons_succ, List.getElem_cons_zero, List.setIfInBounds_toArray, List.set_cons_succ, List.set_cons_zero]
                refine wpAny_ready (rs := [13]) (fuel := 0) (by kernel_rfl) (by simp) (AllReady.cons rfl (fun K' hK => ?_) AllReady.nil)
                rw [if_pos (by kernel_rfl)]
                simp only [List.getElem_toArray, List.getElem_cons_succ, List.getElem_cons_zero]
                have cW := a_mwrite sec c2 P m1 yd1 (.slice (some ⟨wr.heap.size, 0, none⟩) P.length (P.length + 80)) rM (Bys.of_prefix rin (by omega) zP _) hneP (fun a l c h => by cases h; omega) (by omega) (hKon.below hw) zc2 (by omega)
                refine wp_call_ex (f := 16) (by kernel_rfl) (ex1 cW) (fun v_ q24 hX_ => hK _ _ ?_)
                simp only [Act.put, List.setIfInBounds_toArray, List.set_cons_succ, List.set_cons_zero]
                clear hK
                obtain ⟨rfl, rM2, hgr⟩ := hX_
                clear cW
                have l_ := lt_of_row r10
                replace r10 : q24.heap[g10]? = _ := (hgr.block g10 l_ (by intro e; injection e with e; omega)).trans r10
                clear l_
                have l_ := lt_of_row rR
                replace rR : q24.heap[q1]? = _ := (hgr.block q1 l_ (by intro e; injection e with e; omega)).trans rR
                clear l_
                have l_ := lt_of_row rin
                replace rin : q24.heap[wr.heap.size]? = _ := (hgr.block wr.heap.size l_ (by intro e; injection e with e; omega)).trans rin
                clear l_
                replace nC := nC.grown hgr (fun a l c e hl h => by have := sC a l c e hl; injection h with h; omega)
                replace gx := gx.grown hgr (.inl rfl)
                replace hw := hw.grown hgr hw.size (fun q h => by injection h with h; omega)
                exact cut_to (key_  _ ⟨rM2, r10, rR, rin, nC, gx, hw⟩) (by kernel_rfl)
              · rw [if_pos (by kernel_rfl)]
                simp only [List.getElem_toArray, List.getElem_cons_succ, List.getElem_cons_zero]
                refine wp_pure_op (.slice u P.length uc) (hx_load1 22 _ rfl ⟨ab, aoff + k * 3 + 2, none⟩ rfl _ _ (by kernel_rfl) ((hc.out yd1 hw).2.2)) (hK _ _ ?_)
                simp only [Act.put, List.setIfInBounds_toArray, List.set_cons_succ, List.set_cons_zero]
                clear hK
                refine wpAny_take (i := 11) (v := ?v47) rfl (by kernel_rfl) (by kernel_rfl) (by kernel_rfl) (fun _ _ _ h => h) (Or.inl ⟨by rfl, ?y47⟩) ?r47
                case y47 =>
                  intro w_
                  go_simp
                  try with_reducible rfl
                simp only [Act.put, List.getElem_toArray, List.getElem_cons_succ, List.getElem_cons_zero, List.setIfInBounds_toArray, List.set_cons_succ, List.set_cons_zero]
                refine wpAny_take (i := 12) (v := ?v48) rfl (by kernel_rfl) (by kernel_rfl) (by kernel_rfl) (fun _ _ _ h => h) (Or.inl ⟨by rfl, ?y48⟩) ?r48
                case y48 =>
                  intro w_
                  go_simp
                  try with_reducible rfl
                simp only [Act.put, List.getElem_toArray, List.getElem_cons_succ, List.getElem_cons_zero, List.setIfInBounds_toArray, List.set_cons_succ, List.set_cons_zero]
                refine wpAny_ready (rs := [2]) (fuel := 3) (by kernel_rfl) (by simp) (AllReady.cons rfl (fun K' hK => ?_) AllReady.nil)
                rw [if_pos (by kernel_rfl)]
                simp only [List.getElem_toArray, List.getElem_cons_succ, List.getElem_cons_zero]
                refine wp_pure_op (.pointer (some ⟨m1, 0, none⟩)) (hx_load1 30 _ rfl ⟨g9, 1, none⟩ rfl _ _ (by kernel_rfl) (row2_1 r9)) (hK _ _ ?_)
                simp only [Act.put, List.setIfInBounds_toArray, List.set_cons_succ, List.set_cons_zero]
                clear hK
                refine wpAny_take (i := 3) (v := ?v49) rfl (by kernel_rfl) (by kernel_rfl) (by kernel_rfl) (fun _ _ _ h => h) (Or.inl ⟨by rfl, ?y49⟩) ?r49
                case y49 =>
                  intro w_
                  go_simp
                  try with_reducible rfl
                simp only [Act.put, List.getElem_toArray, List.getElem_cons_succ, List.getElem_cons_zero, List.setIfInBounds_toArray, List.set_cons_succ, List.set_cons_zero]
                refine wpAny_take (i := 4) (v := ?v50) rfl (by kernel_rfl) (by kernel_rfl) (by kernel_rfl) (fun _ _ _ h => h) (Or.inl ⟨by rfl, ?y50⟩) ?r50
                case y50 =>
                  intro w_
                  go_simp
                  try with_reducible rfl
                simp only [Act.put, List.getElem_toArray, List.getElem_cons_succ, List.getElem_cons_zero, List.setIfInBounds_toArray, List.set_cons_succ, List.set_cons_zero]
                refine wpAny_ready (rs := [13]) (fuel := 0) (by kernel_rfl) (by simp) (AllReady.cons rfl (fun K' hK => ?_) AllReady.nil)
                rw [if_pos (by kernel_rfl)]
                simp only [List.getElem_toArray, List.getElem_cons_succ, List.getElem_cons_zero]
                have cW := a_mwrite sec c2 P m1 yd1 (.slice (some ⟨wr.heap.size, 0, none⟩) P.length (P.length + 80)) rM (Bys.of_prefix rin (by omega) zP _) hneP (fun a l c h => by cases h; omega) (by omega) (hKon.below hw) zc2 (by omega)
                refine wp_call_ex (f := 16) (by kernel_rfl) (ex1 cW) (fun v_ q25 hX_ => hK _ _ ?_)
                simp only [Act.put, List.setIfInBounds_toArray, List.set_cons_succ, List.set_cons_zero]
                clear hK
                obtain ⟨rfl, rM2, hgr⟩ := hX_
                clear cW
                have l_ := lt_of_row r10
                replace r10 : q25.heap[g10]? = _ := (hgr.block g10 l_ (by intro e; injection e with e; omega)).trans r10
                clear l_
                have l_ := lt_of_row rR
                replace rR : q25.heap[q1]? = _ := (hgr.block q1 l_ (by intro e; injection e with e; omega)).trans rR
                clear l_
                have l_ := lt_of_row rin
                replace rin : q25.heap[wr.heap.size]? = _ := (hgr.block wr.heap.size l_ (by intro e; injection e with e; omega)).trans rin
                clear l_
                replace nC := nC.grown hgr (fun a l c e hl h => by have := sC a l c e hl; injection h with h; omega)
                replace gx := gx.grown hgr (.inl rfl)
                replace hw := hw.grown hgr hw.size (fun q h => by injection h with h; omega)
                exact cut_to (key_  _ ⟨rM2, r10, rR, rin, nC, gx, hw⟩) (by kernel_rfl)
            · clear r9 r10 rM rR rin nC gx hw
              rintro y2 ⟨rM, r10, rR, rin, nC, gx, hw⟩
              refine wpAny_done (by kernel_rfl) ?_ _
              refine NoPanic.normal ?_
              go_wp2_with (fail)
              have hbd : Below y2.heap.size y2 y2.drew := below_drN (Below.refl _ _) 1
              replace rM := keep hbd rM
              replace r10 := keep hbd r10
              replace rR := keep hbd rR
              replace rin := keep hbd rin
              replace nC := nC.keep hbd
              replace hw := Below.after hw hbd
              replace gx := gx.below hbd
              clear hbd
              refine wp_region_noPanic ?_
              refine wp_region_any (by kernel_rfl) ?_
              change wpAny _ _ _ _ _ _ _ (World.drew _)
              generalize y2.drew = yd2 at *
              apply cut_at 0 #[true, true, true, true, true, true, true, true, true] (fun W => ∃ vC', W.heap[m1]? = some (.cells (mst sec (c2 ++ P)) 46 (0, 0)) ∧ W.heap[q1]? = some (.cells #[vK, vC'] 65 (0, 0)) ∧ W.heap[wr.heap.size]? = some (.cells (irow .u8 (P ++ mk4 80)) 5 (0, 0)) ∧ NB W vC' (c2 ++ P) ∧ SB vC' m0 m1 q0 q1 ∧ (∀ a l c, vC' = .slice (some a) l c → 0 < l → some wr.heap.size ≠ some a.block) ∧ Gx wr W m1 q1 ∧ Below w.heap.size w W)
              · intro key_
                refine wpAny_take (i := 0) (v := ?v30) rfl (by kernel_rfl) (by kernel_rfl) (by kernel_rfl) (fun _ _ _ h => h) (Or.inl ⟨by rfl, ?y30⟩) ?r30
                case y30 =>
                  intro w_
                  go_simp
                  try with_reducible rfl
                simp only [Act.put, List.getElem_toArray, List.getElem_cons_zero, List.setIfInBounds_toArray, List.set_cons_succ, List.set_cons_zero]
                refine wpAny_take (i := 1) (v := ?v31) rfl (by kernel_rfl) (by kernel_rfl) (by kernel_rfl) (fun _ _ _ h => h) (Or.inl ⟨by rfl, ?y31⟩) ?r31
                case y31 =>
                  intro w_
                  go_simp
                  try with_reducible rfl
                simp only [Act.put, List.getElem_toArray, List.getElem_cons_succ, List.getElem_cons_zero, List.setIfInBounds_toArray, List.set_cons_succ, List.set_cons_zero]
                refine wpAny_take (i := 3) (v := ?v32) rfl (by kernel_rfl) (by kernel_rfl) (by kernel_rfl) (fun _ _ _ h => h) (Or.inl ⟨by rfl, ?y32⟩) ?r32
                case y32 =>
                  intro w_
                  go_simp
                  try with_reducible rfl
                simp only [Act.put, List.getElem_toArray, List.getElem_cons_succ, List.getElem_cons_zero, List.setIfInBounds_toArray, List.set_cons_succ, List.set_cons_zero]
                refine wpAny_take (i := 4) (v := ?v33) rfl (by kernel_rfl) (by kernel_rfl) (by kernel_rfl) (fun _ _ _ h => h) (Or.inl ⟨by rfl, ?y33⟩) ?r33
                case y33 =>
                  intro w_
                  go_simp
                  try with_reducible rfl
                simp only [Act.put, List.getElem_toArray, List.getElem_cons_succ, List.getElem_cons_zero, List.setIfInBounds_toArray, List.set_cons_succ, List.set_cons_zero]
                refine wpAny_take (i := 5) (v := ?v34) rfl (by kernel_rfl) (by kernel_rfl) (by kernel_rfl) (fun _ _ _ h => h) (Or.inl ⟨by rfl, ?y34⟩) ?r34
                case y34 =>
                  intro w_
                  go_simp
                  try with_reducible rfl
                simp only [Act.put, List.getElem_toArray, List.getElem_cons_succ, List.getElem_cons_zero, List.setIfInBounds_toArray, List.set_cons_succ, List.set_cons_zero]
                refine wpAny_take (i := 6) (v := ?v35) rfl (by kernel_rfl) (by kernel_rfl) (by kernel_rfl) (fun _ _ _ h => h) (Or.inl ⟨by rfl, ?y35⟩) ?r35
                case y35 =>
                  intro w_
                  go_simp
                  try with_reducible rfl
                simp only [Act.put, List.getElem_toArray, List.getElem_cons_succ, List.getElem_cons_zero, List.setIfInBounds_toArray, List.set_cons_succ, List.set_cons_zero]
                refine wpAny_ready (rs := [2, 7]) (fuel := 2) (by kernel_rfl) (by simp) (AllReady.cons rfl (fun K' hK => ?_) (AllReady.cons rfl (fun K' hK => ?_) AllReady.nil))
                · rw [if_pos (by kernel_rfl)]
                  simp only [List.getElem_toArray, List.getElem_cons_succ, List.getElem_cons_zero]
                  refine wp_pure_op (.pointer (some ⟨q1, 0, none⟩)) (hx_load1 33 _ rfl ⟨g10, 1, none⟩ rfl _ _ (by kernel_rfl) (row2_1 r10)) (hK _ _ ?_)
                  simp only [Act.put, List.setIfInBounds_toArray, List.set_cons_succ, List.set_cons_zero]
                  clear hK
                  refine wpAny_ready (rs := [7]) (fuel := 1) (by kernel_rfl) (by simp) (AllReady.cons rfl (fun K' hK => ?_) AllReady.nil)
                  rw [if_pos (by kernel_rfl)]
                  simp only [List.getElem_toArray, List.getElem_cons_succ, List.getElem_cons_zero]
                  refine wp_pure_op (.slice u P.length uc) (hx_load1 22 _ rfl ⟨ab, aoff + k * 3 + 2, none⟩ rfl _ _ (by kernel_rfl) ((hc.out yd2 hw).2.2)) (hK _ _ ?_)
                  simp only [Act.put, List.setIfInBounds_toArray, List.set_cons_succ, List.set_cons_zero]
                  clear hK
                  refine wpAny_ready (rs := [8]) (fuel := 0) (by kernel_rfl) (by simp) (AllReady.cons rfl (fun K' hK => ?_) AllReady.nil)
                  rw [if_pos (by kernel_rfl)]
                  simp only [List.getElem_toArray, List.getElem_cons_succ, List.getElem_cons_zero]
                  have cR := r_mwrite c2 P q1 yd2 vK vC (.slice u P.length uc) rR nC ⟨hBP.keep hw, fun a l c h ha => by cases h; exact hun ha⟩ (by omega)
                  have l1 := lt_of_row rM
                  have l2 := lt_of_row rin
                  have l3 := gx.1
                  refine wp_call_ex (f := 17) (R := fun v W' => v = .tuple #[] ∧ ∃ vC', W'.heap[q1]? = some (.cells #[vK, vC'] 65 (0, 0)) ∧ W'.ownsRow yd2.heap.size 5 1 vC' (c2 ++ P).length ((c2 ++ P).map (Value.int .u8)) ∧ yd2.grownBy W' (some q1)) (by kernel_rfl) (cR.mono fun e W' ⟨vC', h1, h2⟩ => ⟨_, h1, rfl, vC', h2⟩) (fun v_ q22 hX_ => hK _ _ ?_)
                  simp only [Act.put, List.setIfInBounds_toArray, List.set_cons_succ, List.set_cons_zero]
                  clear hK
                  obtain ⟨rfl, vC', rR3, oC, hgr⟩ := hX_
                  clear cR
                  replace rM : q22.heap[m1]? = _ := (hgr.block m1 (lt_of_row rM) (by intro e; injection e with e; omega)).trans rM
                  replace rin : q22.heap[wr.heap.size]? = _ := (hgr.block wr.heap.size (lt_of_row rin) (by intro e; injection e with e; omega)).trans rin
                  replace gx := gx.grown hgr (.inr (.inl rfl))
                  replace hw := hw.grown hgr hw.size (fun q h => by injection h with h; omega)
                  have nC3 := NB.of_own oC (by rw [List.length_append]; omega) (both_bd zc2 zP)
                  have sC3 : SB vC' m0 m1 q0 q1 := own_SB oC (by omega)
                  have loC : ∀ a l c, vC' = .slice (some a) l c → 0 < l → some wr.heap.size ≠ some a.block := fun a l c e _ h => by
                    have h1 := (oC.lt a.block (by rw [e]; rfl)).1
                    injection h with h
                    omega
                  exact cut_to (key_  _ ⟨vC', rM, rR3, rin, nC3, sC3, loC, gx, hw⟩) (by kernel_rfl)
                · rw [if_pos (by kernel_rfl)]
                  simp only [List.getElem_toArray, List.getElem_cons_succ, List.getElem_cons_zero]
                  refine wp_pure_op (.slice u P.length uc) (hx_load1 22 _ rfl ⟨ab, aoff + k * 3 + 2, none⟩ rfl _ _ (by kernel_rfl) ((hc.out yd2 hw).2.2)) (hK _ _ ?_)
                  simp only [Act.put, List.setIfInBounds_toArray, List.set_cons_succ, List.set_cons_zero]
                  clear hK
                  refine wpAny_ready (rs := [2]) (fuel := 1) (by kernel_rfl) (by simp) (AllReady.cons rfl (fun K' hK => ?_) AllReady.nil)
                  rw [if_pos (by kernel_rfl)]
                  simp only [List.getElem_toArray, List.getElem_cons_succ, List.getElem_cons_zero]
                  refine wp_pure_op (.pointer (some ⟨q1, 0, none⟩)) (hx_load1 33 _ rfl ⟨g10, 1, none⟩ rfl _ _ (by kernel_rfl) (row2_1 r10)) (hK _ _ ?_)
                  simp only [Act.put, List.setIfInBounds_toArray, List.set_cons_succ, List.set_cons_zero]
                  clear hK
                  refine wpAny_ready (rs := [8]) (fuel := 0) (by kernel_rfl) (by simp) (AllReady.cons rfl (fun K' hK => ?_) AllReady.nil)
                  rw [if_pos (by kernel_rfl)]
                  simp only [List.getElem_toArray, List.getElem_cons_succ, List.getElem_cons_zero]
                  have cR := r_mwrite c2 P q1 yd2 vK vC (.slice u P.length uc) rR nC ⟨hBP.keep hw, fun a l c h ha => by cases h; exact hun ha⟩ (by omega)
                  have l1 := lt_of_row rM
                  have l2 := lt_of_row rin
                  have l3 := gx.1
                  refine wp_call_ex (f := 17) (R := fun v W' => v = .tuple #[] ∧ ∃ vC', W'.heap[q1]? = some (.cells #[vK, vC'] 65 (0, 0)) ∧ W'.ownsRow yd2.heap.size 5 1 vC' (c2 ++ P).length ((c2 ++ P).map (Value.int .u8)) ∧ yd2.grownBy W' (some q1)) (by kernel_rfl) (cR.mono fun e W' ⟨vC', h1, h2⟩ => ⟨_, h1, rfl, vC', h2⟩) (fun v_ q23 hX_ => hK _ _ ?_)
                  simp only [Act.put, List.setIfInBounds_toArray, List.set_cons_succ, List.set_cons_zero]
                  clear hK
                  obtain ⟨rfl, vC', rR3, oC, hgr⟩ := hX_
                  clear cR
                  replace rM : q23.heap[m1]? = _ := (hgr.block m1 (lt_of_row rM) (by intro e; injection e with e; omega)).trans rM
                  replace rin : q23.heap[wr.heap.size]? = _ := (hgr.block wr.heap.size (lt_of_row rin) (by intro e; injection e with e; omega)).trans rin
                  replace gx := gx.grown hgr (.inr (.inl rfl))
                  replace hw := hw.grown hgr hw.size (fun q h => by injection h with h; omega)
                  have nC3 := NB.of_own oC (by rw [List.length_append]; omega) (both_bd zc2 zP)
                  have sC3 : SB vC' m0 m1 q0 q1 := own_SB oC (by omega)
                  have loC : ∀ a l c, vC' = .slice (some a) l c → 0 < l → some wr.heap.size ≠ some a.block := fun a l c e _ h => by
                    have h1 := (oC.lt a.block (by rw [e]; rfl)).1
                    injection h with h
                    omega
                  exact cut_to (key_  _ ⟨vC', rM, rR3, rin, nC3, sC3, loC, gx, hw⟩) (by kernel_rfl)
              · clear rM r10 rR rin nC gx hw
                rintro y3 ⟨vC', rM, rR3, rin, nC3, sC3, loC, gx, hw⟩
                refine wpAny_done (by kernel_rfl) ?_ _
                refine NoPanic.normal ?_
                have cc3 := (hc.out y3 hw).2.2
                go_wp2_with (fail)
                refine (l_left P wr.heap.size y3 _ (hBP.keep hw) (by omega) rin).mono ?_
                rintro e_ y4 ⟨rfl, hb⟩
                replace hw := Below.after hw hb
                replace gx := gx.below hb
                replace rM := keep hb rM
                replace rR3 := keep hb rR3
                replace rin := keep hb rin
                replace nC3 := nC3.keep hb
                clear hb cc3
                have cc4 := (hc.out y4 hw).2.2
                go_wp2_with (fail)
                refine (l_turned P wr.heap.size y4 _ (hBP.keep hw) (by omega) rin).mono ?_
                rintro e_ y5 ⟨rfl, _, _, hgr⟩
                replace gx := gx.grown hgr (.inr (.inr (Nat.le_refl _)))
                replace hw := hw.grown hgr hw.size (fun q h => by injection h with h; omega)
                replace rM : y5.heap[m1]? = _ := (hgr.block m1 (lt_of_row rM) (by intro e; injection e with e; omega)).trans rM
                replace rR3 : y5.heap[q1]? = _ := (hgr.block q1 (lt_of_row rR3) (by intro e; injection e with e; omega)).trans rR3
                replace nC3 := nC3.grown hgr loC
                have nK5 : NB y5 vK sec := nK.move gx.1 (fun a l c e hl => by
                  have h1 := bys_ne nK.1 a l c e hl
                  have h2 := sK a l c e hl
                  exact gx.2 _ h1 (by omega) (by omega))
                have hI5 := PI.step1 hI hu gx hw rM rR3 nK5 sK nC3 sC3
                clear hgr rM rR3 nC3 nK5 gx cc4 rin loC sC3 hI
                go_wp2
                refine ⟨⟨k + 1, c1, c2 ++ P, by omega, by go_num, hI5, by rw [hF1.out, List.length_append]; omega, by rw [hF1.out, List.length_append, List.length_append]; omega, zc1, both_bd zc2 zP⟩, ?_⟩
                simp [intOf]; omega
          · by_cases k2 : K = 2
            · subst k2
              clear k1
              obtain ⟨vK, vC, rR, nK, nC, sK, sC⟩ := id hI.2.2.2.2.2.1
              have rM := hI.2.2.2.1
              have hHl := hm_len sec c2
              have cM : GivesB wr 18 #[.pointer (some ⟨m1, 0, none⟩)] (.agg (irow .u8 (hm sec c2))) := fun W hW => a_msum sec c2 m1 W ((hK.below hw).below hW) (keep hW rM) zc2 (by omega)
              have cR : GivesB wr 19 #[.pointer (some ⟨q1, 0, none⟩)] (.agg (irow .u8 (hm sec c2))) := fun W hW => r_msum sec c2 q1 W vK vC (keep hW rR) (nK.keep hW) (by omega) (nC.keep hW) (by omega)
              generalize hm sec c2 = H at *
              have heq := eqHm H hHl
              have c9 := row2_1 hI.1
              have c10 := row2_1 hI.2.1
              obtain ⟨cK, cO, cB⟩ := hc.out wr hw
              clear rM rR nK nC
              go_wp2_with (fail)
              have k1 : ∀ p : Regrown, (grow (redrawn wr p.d) p.os).cell? ⟨g9, 1, none⟩ = some (.pointer (some ⟨m1, 0, none⟩)) := fun p => cell_regrown (c9) p.d p.os
              have k2 : ∀ p : Regrown, (grow (redrawn wr p.d) p.os).cell? ⟨g10, 1, none⟩ = some (.pointer (some ⟨q1, 0, none⟩)) := fun p => cell_regrown (c10) p.d p.os
              refine wp_region_quiet_below (by kernel_rfl) (by kernel_rfl) ?_
              go_big_quiet_step (fail)
              go_big_quiet_step (fail)
              go_big_quiet_step (fail)
              go_big_quiet_step (exact cM.re)
              go_big_quiet_step (fail)
              go_big_quiet_step (fail)
              go_big_quiet_step (fail)
              go_big_quiet_step (exact cR.re)
              go_big_quiet_step (fail)
              refine wpQuiet_nil ?_
              rintro _ ⟨p, rfl⟩
              have hb := below_regrown wr p.d p.os
              generalize grow (redrawn wr p.d) p.os = y2 at *
              clear k1 k2
              replace hw := Below.after hw hb
              have hI2 := hI.below hb
              clear hb
              go_wp2
              refine ⟨⟨k + 1, c1, c2, by omega, by go_num, hI2, by rw [hF1.out, List.length_append]; omega, by rw [hF1.out, List.length_append]; omega, zc1, zc2⟩, ?_⟩
              simp [intOf]; omega
            · by_cases k3 : K = 3
              · subst k3
                clear k1 k2
                obtain ⟨vK, vC, rR, nK, nC, sK, sC⟩ := id hI.2.2.2.2.2.1
                have rM := hI.2.2.2.1
                have c9 := row2_1 hI.1
                obtain ⟨cK, cO, cB⟩ := hc.out wr hw
                go_wp2_with (fail)
                refine (a_mreset sec c2 m1 wr rM).mono ?_
                rintro e_ y2 ⟨rfl, rM2, hgr1⟩
                rw [← eE.out] at rM2
                have gx2 := (Gx.refl wr m1 q1).grown hgr1 (.inl rfl)
                have hw2 := hw.grown hgr1 hw.size (fun q h => by injection h with h; omega)
                have rR2 : y2.heap[q1]? = _ := (hgr1.block q1 (lt_of_row rR) (by intro e; injection e with e; omega)).trans rR
                have c10 := row2_1 ((hgr1.block g10 (lt_of_row hI.2.1) (by intro e; injection e with e; omega)).trans hI.2.1)
                go_wp2_with (fail)
                refine (r_mreset q1 y2 vK vC rR2).mono ?_
                rintro e_ y3 ⟨rfl, rR3, hgr2⟩
                have gx3 := gx2.grown hgr2 (.inr (.inl rfl))
                have hw3 := hw2.grown hgr2 hw2.size (fun q h => by injection h with h; omega)
                have rM3 : y3.heap[m1]? = _ := (hgr2.block m1 (lt_of_row rM2) (by intro e; injection e with e; omega)).trans rM2
                have nK3 : NB y3 vK sec := nK.move gx3.1 (fun a l c e hl => by
                  have h1 := bys_ne nK.1 a l c e hl
                  have h2 := sK a l c e hl
                  exact gx3.2 _ h1 (by omega) (by omega))
                have nE3 : NB y3 (.slice none 0 0) E := by rw [eE.out]; exact nb_nil y3
                have hI3 := PI.step1 hI hu gx3 hw3 rM3 rR3 nK3 sK nE3 (sb_nil _ _ _ _)
                clear hgr1 hgr2 rM2 rM3 rR2 rR3 nK3 nE3 gx2 gx3 hw2 hw3
                go_wp2
                refine ⟨⟨k + 1, c1, E, by omega, by go_num, hI3, by rw [hF1.out, List.length_append]; omega, by rw [hF1.out, List.length_append]; omega, zc1, zE⟩, ?_⟩
                simp [intOf]; omega
              · have e1 : (K == 1) = false := beq_eq_false_iff_ne.2 k1
                have e2 : (K == 2) = false := beq_eq_false_iff_ne.2 k2
                have e3 : (K == 3) = false := beq_eq_false_iff_ne.2 k3
                obtain ⟨cK, cO, cB⟩ := hc.out wr hw
                go_wp2
                refine ⟨⟨k + 1, c1, c2, by omega, by go_num, hI, by rw [hF1.out, List.length_append]; omega, by rw [hF1.out, List.length_append]; omega, zc1, zc2⟩, ?_⟩
                simp [intOf]; omega
      · obtain rfl : k = np := by omega
        have hd : decide ((k : Int) < (k : Int)) = false := by simp
        clear hpc hfn hfa
        obtain ⟨vK, vC, rR, nK, nC, sK, sC⟩ := id hI.2.2.2.2.1
        obtain ⟨vK2, vC2, rR2, nK2, nC2, sK2, sC2⟩ := id hI.2.2.2.2.2.1
        have h1l := hm_len key c1
        have h2l := hm_len sec c2
        have cM0 : GivesB wr 18 #[.pointer (some ⟨m0, 0, none⟩)] (.agg (irow .u8 (hm key c1))) := fun W hW => a_msum key c1 m0 W ((hK.below hw).below hW) (keep hW hI.2.2.1) zc1 (by omega)
        have cM1 : GivesB wr 18 #[.pointer (some ⟨m1, 0, none⟩)] (.agg (irow .u8 (hm sec c2))) := fun W hW => a_msum sec c2 m1 W ((hK.below hw).below hW) (keep hW hI.2.2.2.1) zc2 (by omega)
        have cR0 : GivesB wr 19 #[.pointer (some ⟨q0, 0, none⟩)] (.agg (irow .u8 (hm key c1))) := fun W hW => r_msum key c1 q0 W vK vC (keep hW rR) (nK.keep hW) (by omega) (nC.keep hW) (by omega)
        have cR1 : GivesB wr 19 #[.pointer (some ⟨q1, 0, none⟩)] (.agg (irow .u8 (hm sec c2))) := fun W hW => r_msum sec c2 q1 W vK2 vC2 (keep hW rR2) (nK2.keep hW) (by omega) (nC2.keep hW) (by omega)
        generalize hm key c1 = H1 at *
        generalize hm sec c2 = H2 at *
        have heq1 := eqHm H1 h1l
        have heq2 := eqHm H2 h2l
        have c90 := row2_0 hI.1
        have c91 := row2_1 hI.1
        have ca0 := row2_0 hI.2.1
        have ca1 := row2_1 hI.2.1
        go_wp2_with (fail)
        have k1 : ∀ p : Regrown, (grow (redrawn wr p.d) p.os).cell? ⟨g9, 0, none⟩ = some (.pointer (some ⟨m0, 0, none⟩)) := fun p => cell_regrown (c90) p.d p.os
        have k2 : ∀ p : Regrown, (grow (redrawn wr p.d) p.os).cell? ⟨g10, 0, none⟩ = some (.pointer (some ⟨q0, 0, none⟩)) := fun p => cell_regrown (ca0) p.d p.os
        have k3 : ∀ p : Regrown, (grow (redrawn wr p.d) p.os).cell? ⟨g9, 1, none⟩ = some (.pointer (some ⟨m1, 0, none⟩)) := fun p => cell_regrown (c91) p.d p.os
        have k4 : ∀ p : Regrown, (grow (redrawn wr p.d) p.os).cell? ⟨g10, 1, none⟩ = some (.pointer (some ⟨q1, 0, none⟩)) := fun p => cell_regrown (ca1) p.d p.os
        refine wp_region_quiet_below (by kernel_rfl) (by kernel_rfl) ?_
        go_big_quiet_step (fail)
        go_big_quiet_step (fail)
        go_big_quiet_step (exact cM0.re)
        go_big_quiet_step (fail)
        go_big_quiet_step (fail)
        go_big_quiet_step (exact cR0.re)
        go_big_quiet_step (fail)
        go_big_quiet_step (fail)
        go_big_quiet_step (fail)
        go_big_quiet_step (fail)
        go_big_quiet_step (exact cM1.re)
        go_big_quiet_step (fail)
        go_big_quiet_step (fail)
        go_big_quiet_step (exact cR1.re)
        go_big_quiet_step (fail)
        go_big_quiet_step (fail)
        go_big_quiet_step (fail)
        refine wpQuiet_nil ?_
        rintro _ ⟨p, rfl⟩
        have hb := below_regrown wr p.d p.os
        generalize grow (redrawn wr p.d) p.os = y9 at *
        clear k1 k2 k3 k4
        replace hw := Below.after hw hb
        clear hb
        go_wp2
        go_ret
        exact ⟨rfl, hw⟩

end Go.Proofs.YtmcokphkaekdaaaDoor
