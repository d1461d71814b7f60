import Derived.Test.YtebgdenfaiinmaaTail
import Derived.OrdersHeld
namespace Go.Proofs.Ytebgdenfaiinmaa
open Go Go.RowKit
/-! A region that draws its order, whose last operation waits for all others: every order of the others, then that one. The others may store. -/
/-- What is to hold ahead of the last operation. -/
def Ahead (P : Program) (L : List Oper) (o : Oper) (Q : Exit → Act → World → Prop) : Exit → Act → World → Prop
  | .normal, a, w => wpList P L.toArray Q [o] a w
  | e, a, w => Q e a w
section
variable {P : Program} {L : List Oper} {m : Nat} {o : Oper} {Q : Exit → Act → World → Prop}
theorem ahead_out (h : LetsOut (Ahead P L o Q)) : LetsOut Q := by
  obtain ⟨a, w, h⟩ := h
  exact ⟨a, w, h⟩
theorem ahead_wp {x : Oper} {a : Act} {w : World} {K : Act → World → Prop} (hh : x.wp P a w K (Ahead P L o Q)) : x.wp P a w K Q := by
  unfold Oper.wp at *
  generalize (execOp a.eval x).run P w = r at *
  cases r with
  | ok n w' =>
    cases n <;> simp only [Oper.upon] at hh ⊢ <;>
      first
        | exact hh
        | exact Calls.mono hh (fun e w'' he => by cases e <;> first | exact he | exact ahead_out he)
  | halt x w' => cases x <;> simp only [Oper.upon] at hh ⊢ <;> exact hh
theorem wpAny_of_last (h : L[m]? = some o) (hd : o.dst = none) (hg : o.guard = none) (hl : lastB L m = true) (hO : ordB L = true) :
    ∀ (fuel : Nat) (listed : Array Bool) (a : Act) (w : World), listed.size = L.length → Closed L listed → listed.getD m true = false →
      wpAny P .any (L.set m (idle o)).toArray (Ahead P L o Q) fuel listed a w → wpAny P .any L.toArray Q fuel listed a w := by
  have hml : m < L.length := (List.getElem?_eq_some_iff.1 h).1
  have hnil : ∀ listed : Array Bool, Region.ready .any (L.set m (idle o)).toArray listed = [] ↔ Region.ready .any L.toArray listed = [] := by
    intro listed
    rw [List.eq_nil_iff_forall_not_mem, List.eq_nil_iff_forall_not_mem]
    exact forall_congr' fun i => not_congr (mem_ready_idle h)
  intro fuel
  induction fuel with
  | zero =>
    intro listed a w hs _ hun H
    exact absurd ((hnil _).1 H.1) (ready_some hO hs m hml hun)
  | succ fuel ih =>
    intro listed a w hs hc hun H
    refine ⟨fun h0 => absurd h0 (ready_some hO hs m hml hun), fun i hi => ?_⟩
    have hq := H.2 i ((mem_ready_idle h).2 hi)
    by_cases e : m = i
    · subst e
      have hn := ready_none hO hl hc hi
      unfold wpOp at hq
      rw [idle_at h, if_pos rfl] at hq
      have hwant : Region.wanted (idle o) (yielded (L.set m (idle o)).toArray a.tmps) = true := by simp [Region.wanted, idle, hg]
      simp only [hwant, if_true] at hq
      have hrun : (execOp a.eval (idle o)).run P w = .ok (.value undef) w := by simp [idle, execOp, Act.eval]
      have hK : wpAny P .any (L.set m (idle o)).toArray (Ahead P L o Q) fuel (listed.setIfInBounds m true) a w := by
        rcases hq with hq | hq
        · unfold Oper.wp at hq
          rw [hrun, Oper.upon_value] at hq
          have hput : a.put (idle o).dst undef = a := by simp [idle, hd, Act.put]
          rwa [hput] at hq
        · exact absurd hq.1 (by
            simp [Oper.asks, idle, execOp, Act.eval]
            intro hm_
            have e_ : Sem.events P (pure (Next.value undef)) w #[] = #[] := rfl
            rw [e_] at hm_
            simp at hm_)
      have h1 : wpList P L.toArray Q [o] a w := by
        cases fuel with
        | zero => exact hK.2
        | succ f => exact hK.1 ((hnil _).2 hn)
      unfold wpOp
      have ho : L.toArray[m]? = some o := by simpa using h
      simp only [ho]
      have hwant' : Region.wanted o (yielded L.toArray a.tmps) = true := by simp [Region.wanted, hg]
      simp only [wpList, hwant', if_true] at h1
      simp only [hwant', if_true]
      refine h1.imp_left fun h2 => Oper.wp_mono (fun a'' w'' h3 => ?_) h2
      cases fuel with
      | zero => exact ⟨hn, h3⟩
      | succ f => exact ⟨fun _ => h3, fun i hi => by rw [hn] at hi; cases hi⟩
    · have ihK : ∀ a' w', wpAny P .any (L.set m (idle o)).toArray (Ahead P L o Q) fuel (listed.setIfInBounds i true) a' w' → wpAny P .any L.toArray Q fuel (listed.setIfInBounds i true) a' w' :=
        fun a' w' hk => ih _ a' w' (by simpa using hs) (hc.set hi) (by rw [getD_set_ne true (Ne.symm e)]; exact hun) hk
      unfold wpOp at hq ⊢
      rw [idle_at h, if_neg e, yielded_idle h] at hq
      cases hx : L.toArray[i]? with
      | none => simp only [hx] at hq ⊢; exact ihK _ _ hq
      | some x =>
        simp only [hx] at hq ⊢
        split
        · rename_i hw
          rw [if_pos hw] at hq
          rcases hq with hq | ⟨hq, hq2⟩
          · exact .inl (Oper.wp_mono ihK (ahead_wp hq))
          · exact .inr ⟨hq, ahead_out hq2⟩
        · rename_i hw
          rw [if_neg hw] at hq
          exact ihK _ _ hq
/-- **EVERY ORDER OF THE OTHERS, THEN THE LAST OPERATION.** -/
theorem wp_region_last {id : Nat} {a : Act} {w : World} (m : Nat) (o : Oper) (h : L[m]? = some o) (hd : o.dst = none) (hg : o.guard = none) (hm : P.follows .mixedOrders = true)
    (hl : lastB L m = true) (hO : ordB L = true)
    (hany : wpAny P .any (L.set m (idle o)).toArray (Ahead P L o Q) (L.set m (idle o)).toArray.size (Array.replicate (L.set m (idle o)).toArray.size false) a { w with drawn := w.drawn + 1 }) : (Code.region id L.toArray true).wp P Q a w := by
  have hml : m < L.length := (List.getElem?_eq_some_iff.1 h).1
  have hsz : (L.set m (idle o)).toArray.size = L.toArray.size := by simp
  rw [hsz] at hany
  exact wp_region_any hm (wpAny_of_last h hd hg hl hO _ _ _ _ (by simp) (fun k x hx hk => by simp only [Array.getD_eq_getD_getElem?, Array.getElem?_replicate] at hk; split at hk <;> simp at hk) (by simp [hml]) hany)
end
end Go.Proofs.Ytebgdenfaiinmaa
