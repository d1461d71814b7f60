import Derived.Test.YtebgdenfaiinmaaProg
import Derived.WalkKit
import Derived.WalkSpells
import Derived.WalkLawsBesides
import Derived.Lib.QuietBelow
import Derived.BigQuiet
import Derived.OrdersHeld
import Derived.Deep.RegionHeld3
import Derived.OwnWalk
import Derived.Test.YtebgdenfaiinmaaKit
import Derived.Test.YtebgdenfaiinmaaSpp
import Derived.Test.YtebgdenfaiinmaaSpl
namespace Go.Proofs.Ytebgdenfaiinmaa
open Go Go.RowKit Go.Sort Go.ChangeMaps Go.MapKept
attribute [local go_sem] setCell_drewN alloc_drewN

theorem sps_take {l : List Sr} (hok : AllOk l) (i : Nat) (hi : i ≤ l.length) : (sps l).take (i * 65) = sps (l.take i) := by
  have e : sps l = sps (l.take i) ++ sps (l.drop i) := by rw [← sps_app, List.take_append_drop]
  rw [e, List.take_append_of_le_length (by rw [sps_len (hok.take i), List.length_take, Nat.min_eq_left hi]; exact Nat.le_refl _)]
  exact List.take_of_length_le (by rw [sps_len (hok.take i), List.length_take, Nat.min_eq_left hi]; exact Nat.le_refl _)
theorem sps_drop {l : List Sr} (hok : AllOk l) (j : Nat) (hj : j ≤ l.length) (t : Nat) : (sps (l.drop j))[t]? = (sps l)[j * 65 + t]? := by
  have e : sps l = sps (l.take j) ++ sps (l.drop j) := by rw [← sps_app, List.take_append_drop]
  have el : (sps (l.take j)).length = j * 65 := by rw [sps_len (hok.take j), List.length_take, Nat.min_eq_left hj]
  rw [e, List.getElem?_append_right (by rw [el]; omega), el]
  congr 1
  omega
/-- 'append(r[:k], r[k+1:]...)'. -/
theorem wp_cutS {w : World} {o : Oper} {a : Act} {K : Act → World → Prop} {Q : Exit → Act → World → Prop} (s x : Operand) (ho : o.op = .call { callee := .builtin .append, args := #[s, x], argTypes := #[38, 38] })
    (base gR cR : Nat) (r : List Sr) (k m : Nat) (hO : OwnS w base (.slice (some ⟨gR, 0, none⟩) r.length cR) r) (hk : k < r.length) (hm : r.length - (k + 1) = m) (ad : Addr) (had : ad = if cR = k + 1 then ⟨gR, 0, none⟩ else ⟨gR, (k + 1) * 65, none⟩)
    (hs : a.eval s = .slice (some ⟨gR, 0, none⟩) k cR) (hx : a.eval x = .slice (some ad) m (cR - (k + 1)))
    (h : ∀ w', OwnS w' base (.slice (some ⟨gR, 0, none⟩) (k + m) cR) (r.take k ++ r.drop (k + 1)) → Fr (fun j => j = gR) w w' → K (a.put o.dst (.slice (some ⟨gR, 0, none⟩) (k + m) cR)) w') : o.wp Try.prog a w K Q := by
  obtain ⟨i0, hi, hz0, hz1, hz2⟩ := infoSr
  obtain ⟨⟨_, ⟨e, _⟩ | ⟨g1, c1, cur, e, hb, hg, h1, h2, hcs, hct⟩⟩, hok⟩ := hO
  · cases e
  · cases e
    have hnl : (sps (r.drop (k + 1))).length = m * 65 := by rw [sps_len (hok.drop (k + 1)), List.length_drop, hm]
    have hnc : ∀ t u, (sps (r.drop (k + 1)))[t]? = some u → w.cell? (ad.add t) = some u := by
      intro t u hu
      have hjc : cR ≠ k + 1 := fun e => by
        have := (List.getElem?_eq_some_iff.1 hu).1
        rw [hnl] at this
        omega
      rw [had, if_neg hjc]
      rw [sps_drop hok (k + 1) (by omega), ← hct] at hu
      have ht : (k + 1) * 65 + t < r.length * 65 := by
        have := (List.getElem?_eq_some_iff.1 hu).1
        rw [List.length_take] at this
        omega
      rw [List.getElem?_take_of_lt ht] at hu
      rw [addr_add, cell_of_row _ _ _ _ _ _ hg]
      simpa using hu
    have hr := run_append_room (P := Try.prog) w 38 o.type 60 i0 Try.underlying38 hi gR k cR cur hg ad m (cR - (k + 1)) (sps (r.drop (k + 1))) (by rw [hz1]; exact hnl) hnc (sps_ones _) (by omega) (by rw [hz1, hnl, hcs]; omega)
    rw [hz1] at hr
    have hct1 : cur.toList.take (k * 65) = sps (r.take k) := by rw [← sps_take hok k (by omega), ← hct, List.take_take, Nat.min_eq_left (by omega)]
    unfold Oper.wp execOp
    simp only [ho, resolve, invoke, builtin, Sem.run_bind, Sem.run_pure, Result.andThen_ok, List.map_toArray, List.map_cons, List.map_nil, hs, hx, hr]
    refine h _ ⟨⟨?_, .inr ⟨gR, cR, _, ?_, hb, setRow_heap w gR _ _ _ _ hg, ?_, h2, ?_, ?_⟩⟩, (hok.take k).app (hok.drop (k + 1))⟩ ((Fr.refl (fun j => j = gR) w).setRow (b := gR) rfl _)
    · rw [sps_len ((hok.take k).app (hok.drop (k + 1)))]
    · rw [List.length_append, List.length_take, List.length_drop]; congr 1; omega
    · rw [List.length_append, List.length_take, List.length_drop]; omega
    · rw [List.size_toArray, List.length_append, List.length_append, List.length_take, List.length_drop, Array.length_toList, hcs, hnl]
      omega
    · rw [hct1, sps_app]
      show (sps (r.take k) ++ sps (r.drop (k + 1)) ++ _).take _ = _
      have el : ((sps (r.take k)) ++ (sps (r.drop (k + 1)))).length = (r.take k ++ r.drop (k + 1)).length * 65 := by rw [← sps_app, sps_len ((hok.take k).app (hok.drop (k + 1)))]
      rw [← el, List.take_left']
      rfl
/-- Numbers handed in. -/
def Ins (W : World) (v : Value) (zs : List Int) : Prop := ∃ ao cap, v = .slice ao zs.length cap ∧ zs.length ≤ 9223372036854775807 ∧ ∀ i, i < zs.length → ∃ b off, ao = some ⟨b, off, none⟩ ∧ b < W.heap.size ∧ W.cell? ⟨b, off + i, none⟩ = some (.int .i64 (zs.getD i 0))
theorem Ins.keep {W V : World} {v : Value} {zs : List Int} (h : Ins W v zs) (hb : Below W.heap.size W V) : Ins V v zs := by
  obtain ⟨ao, cap, e, hl, hc⟩ := h
  refine ⟨ao, cap, e, hl, fun i hi => ?_⟩
  obtain ⟨b, off, e1, h1, h2⟩ := hc i hi
  exact ⟨b, off, e1, Nat.lt_of_lt_of_le h1 hb.size, (hb.cell h1).trans h2⟩
theorem Ins.form {W : World} {v : Value} {zs : List Int} (h : Ins W v zs) : ∃ ao cap, v = .slice ao zs.length cap ∧ zs.length ≤ 9223372036854775807 := by
  obtain ⟨ao, cap, e, hl, _⟩ := h
  exact ⟨ao, cap, e, hl⟩
theorem Ins.at {W : World} {ao : Option Addr} {k cap : Nat} {zs : List Int} (h : Ins W (.slice ao k cap) zs) {i : Nat} (hi : i < zs.length) : ∃ b off, ao = some ⟨b, off, none⟩ ∧ b < W.heap.size ∧ W.cell? ⟨b, off + i, none⟩ = some (.int .i64 (zs.getD i 0)) := by
  obtain ⟨ao', cap', e, _, hc⟩ := h
  cases e
  exact hc i hi
/-- A spare of the second list, taken. -/
theorem plc_second {l r : List Sr} (hn : ((l ++ r).map Sr.lb).Nodup) {k : Nat} (hk : k < r.length) : plc (gs r k).lb ((l ++ r).map Sr.lb) = some (l.length + k) :=
  plc_nod _ _ _ hn (by rw [List.getElem?_map, List.getElem?_append_right (by omega), Nat.add_sub_cancel_left, gs_get hk]; rfl)
theorem cut_second {l r : List Sr} {k : Nat} : (l ++ r).take (l.length + k) ++ (l ++ r).drop (l.length + k + 1) = l ++ (r.take k ++ r.drop (k + 1)) := by
  rw [List.take_length_add_append, show l.length + k + 1 = l.length + (k + 1) by omega, List.drop_length_add_append, List.append_assoc]
theorem gs_second {l r : List Sr} {k : Nat} : gs (l ++ r) (l.length + k) = gs r k := by
  rw [gs, gs, List.getD_eq_getElem?_getD, List.getD_eq_getElem?_getD, List.getElem?_append_right (by omega), Nat.add_sub_cancel_left]
theorem fnd_second {l r : List Sr} (hn : ((l ++ r).map Sr.lb).Nodup) {k : Nat} (hk : k < r.length) : fnd (l ++ r) (gs r k).lb = some (gs r k) := by
  rw [fnd, plc_second hn hk, Option.map_some, gs_second]
theorem gone_second {l r : List Sr} (hn : ((l ++ r).map Sr.lb).Nodup) {k : Nat} (hk : k < r.length) : (fnd (l ++ (r.take k ++ r.drop (k + 1))) (gs r k).lb).isSome = false := by
  rw [fnd_f]
  have e : r = r.take k ++ gs r k :: r.drop (k + 1) := by
    rw [← List.singleton_append, ← List.append_assoc, ← take_snocS r k hk, List.take_append_drop]
  have hn2 := hn
  rw [e, List.map_append, List.map_append, List.map_cons] at hn2
  have p : (l.map Sr.lb ++ ((r.take k).map Sr.lb ++ (gs r k).lb :: (r.drop (k + 1)).map Sr.lb)).Perm ((gs r k).lb :: (l.map Sr.lb ++ ((r.take k).map Sr.lb ++ (r.drop (k + 1)).map Sr.lb))) := by
    refine List.Perm.trans (List.Perm.append_left _ List.perm_middle) List.perm_middle
  have := (p.nodup_iff.1 hn2)
  rw [List.map_append, List.map_append]
  exact (List.nodup_cons.1 this).1

end Go.Proofs.Ytebgdenfaiinmaa
