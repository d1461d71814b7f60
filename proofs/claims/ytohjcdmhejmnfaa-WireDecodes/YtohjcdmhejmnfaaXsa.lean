import Derived.Test.YtohjcdmhejmnfaaProg
import Derived.WalkKit
import Derived.WalkSpells
import Derived.WalkLawsBesides
import Derived.Lib.QuietBelow
import Derived.Laws.BitsAllLaws
import Derived.BigQuiet
import Derived.WalkMore
import Derived.Test.YtohjcdmhejmnfaaKit
import Derived.Test.YtohjcdmhejmnfaaWo
namespace Go.Proofs.Ytohjcdmhejmnfaa
open Go Go.RowKit Go.Sort
attribute [local go_sem] setCell_drewN alloc_drewN

/-- An append to a list of one's own: where the row lies behind it. -/
theorem wp_append_where {P : Program} {w : World} {o : Oper} {a : Act} {K : Act → World → Prop} {Q : Exit → Act → World → Prop} (s x : Operand) (t : TypeId)
    (ho : o.op = .call { callee := .builtin .append, args := #[s, x], argTypes := #[t, t] })
    (base : Nat) (e : TypeId) (i : TypeInfo) (z : Value) (size bytes : Nat) (ht : P.underlying t = some (.slice e)) (hi : P.info? e = some i) (hz : i.zero = some z)
    (hsize : i.size = size) (hby : i.bytes = bytes) (hzs : z.cells.size = size) (hsz : 0 < size)
    (v : Value) (n : Nat) (xs : List Value) (hs : a.eval s = v) (hown : w.ownsRow base e size v n xs)
    (ad : Addr) (m c : Nat) (news : List Value) (hx : a.eval x = .slice (some ad) m c) (hl : news.length = m * size) (hm : 0 < m) (hnews : ∀ j u, news[j]? = some u → w.cell? (ad.add j) = some u) (h1 : ∀ u ∈ news, u.oneCell' = true)
    (h63 : n + m ≤ maxLen) (hbytes : (n + m) * bytes ≤ 140737488355328) (hbase : base ≤ w.heap.size)
    (h : ∀ v' w', w'.ownsRow base e size v' (n + m) (xs ++ news) → w.grownBy w' v.ownBlock → ((∃ g1 cap1, v = .slice (some ⟨g1, 0, none⟩) n cap1 ∧ v' = .slice (some ⟨g1, 0, none⟩) (n + m) cap1) ∨ ∃ k, v'.ownBlock = some k ∧ w.heap.size ≤ k ∧ ∀ i, i < w.heap.size → w'.heap[i]? = w.heap[i]?) → K (a.put o.dst v') w') : o.wp P a w K Q := by
  obtain ⟨v', w', hr, h2, h3, h4⟩ := run_append_own (P := P) w base t o.type e i z size bytes ht hi hz hsize hby hzs hsz _ n xs hown ad m c news hl hnews h1 h63 hbytes hbase
  have key : (∃ g1 cap1, v = .slice (some ⟨g1, 0, none⟩) n cap1 ∧ v' = .slice (some ⟨g1, 0, none⟩) (n + m) cap1) ∨ ∃ k, v'.ownBlock = some k ∧ w.heap.size ≤ k ∧ ∀ i, i < w.heap.size → w'.heap[i]? = w.heap[i]? := by
    rcases hown.2 with ⟨rfl, hn0⟩ | ⟨g1, cap1, cur, rfl, hbg, hg, hnc, hcm, hcs, htake⟩
    · have hown2 : w.ownsRow w.heap.size e size (.slice none 0 0) n xs := ⟨hown.1, .inl ⟨rfl, hn0⟩⟩
      obtain ⟨v2, w2, hr2, g2, g3, g4⟩ := run_append_own (P := P) w w.heap.size t o.type e i z size bytes ht hi hz hsize hby hzs hsz _ n xs hown2 ad m c news hl hnews h1 h63 hbytes (Nat.le_refl _)
      have he := hr.symm.trans hr2
      injection he with e1 e2
      subst e1
      subst e2
      rcases g2.2 with ⟨hv, _⟩ | ⟨g, cap, _, hv, hbg, _⟩
      · have := g4.1 hv
        omega
      · exact .inr ⟨g, by rw [hv]; rfl, hbg, fun i hi => g3.block i hi (by simp [Value.ownBlock])⟩
    · by_cases hroom : n + m ≤ cap1
      · have hr2 := run_append_room (P := P) w t o.type e i ht hi g1 n cap1 cur hg ad m c news (by rw [hsize]; exact hl) hnews h1 hroom (by rw [hsize, hl, hcs, ← Nat.add_mul]; exact Nat.mul_le_mul_right _ hroom)
        have he := hr.symm.trans hr2
        injection he with e1 e2
        exact .inl ⟨g1, cap1, rfl, e1⟩
      · have holds : ∀ j u, xs[j]? = some u → w.cell? ((⟨g1, 0, none⟩ : Addr).add j) = some u := hown.cells (g := g1) rfl
        have hr2 := run_append_grow (P := P) w t o.type e i z ht hi hz ⟨g1, 0, none⟩ n cap1 xs (by rw [hsize]; exact hown.1) holds ad m c news (by rw [hsize]; exact hl) hnews (by omega) (by simp only [maxLen] at h63; omega) (growslice_fits (by omega) (by rw [hby]; exact hbytes))
        have he := hr.symm.trans hr2
        injection he with e1 e2
        refine .inr ⟨w.heap.size, by rw [e1]; rfl, Nat.le_refl _, fun i hi => ?_⟩
        rw [e2]
        show (w.heap.push _)[i]? = _
        rw [Array.getElem?_push, if_neg (by omega)]
  unfold Oper.wp execOp
  simp only [ho, resolve, invoke, builtin, Sem.run_bind, Sem.run_pure, Result.andThen_ok, List.map_toArray, List.map_cons, List.map_nil, hs, hx, hr]
  exact h v' w' h2 h3 key
set_option maxRecDepth 100000 in
set_option maxHeartbeats 4000000 in
/-- A list written full: all of it is the mark. -/
theorem full_marks (g n cap : Nat) (x : Int) (cur : Array Value) (w : World) (hg : w.heap[g]? = some (.cells cur 5 (0, 0))) (hcs : cur.size = cap) (hn : n ≤ cap) (hm : cap ≤ maxLen) (hb : n + 90 ≤ 140737488355328) :
    Calls Try.prog 14 #[.slice (some ⟨g, 0, none⟩) n cap, .int .u8 x] w fun e w' => e = .returned (.tuple #[]) ∧ w.grownBy w' (some g) ∧ ∃ cur' : Array Value, w'.heap[g]? = some (.cells cur' 5 (0, 0)) ∧ cur'.size = cap ∧ ∀ i, i < n → cur'[i]? = some (.int .u8 x) := by
  obtain ⟨i0, hi, hz0, hz1, hz2⟩ := info8
  have hgl := lt_of_row hg
  go_enter Try.func14, Try.ntmps14
  go_wp2_with (fail)
  go_loopw [4] (fun i wr => ∃ k : Nat, k ≤ n ∧ i = .int .i64 k ∧ (∃ cur' : Array Value, cur'.size = cap ∧ wr.heap[g]? = some (.cells cur' 5 (0, 0)) ∧ ∀ i, i < k → cur'[i]? = some (.int .u8 x)) ∧ w.grownBy wr (some g)) (fun i _ => n - (intOf i).toNat)
  case atStart => exact ⟨0, by omega, rfl, ⟨cur, hcs, hg, fun i hi => by omega⟩, World.grownBy.refl _ _⟩
  case round =>
    obtain ⟨k, hk, rfl, ⟨cur', hcs', hg', hmk⟩, hw⟩ := hrel
    by_cases hlt : k < n
    · have hd : decide ((k : Int) < (n : Int)) = true := by simp; omega
      have hc : wr.cell? ⟨g, k, none⟩ = some (cur'[k]'(by omega)) := by rw [cell_of_row _ _ _ _ _ _ hg', Array.getElem?_eq_getElem (by omega)]
      have hf := row_frozen hg' k
      have hq := heap_setCell_same wr g k cur' _ (.int .u8 x) hg'
      have hmk2 : Hid (∀ i, i < k + 1 → (cur'.setIfInBounds k (.int .u8 x))[i]? = some (.int .u8 x)) := hide (fun i hi => by
        rw [Array.getElem?_setIfInBounds]
        split
        · rename_i h; rw [if_pos (by omega)]
        · rename_i h; exact hmk i (by omega))
      clear hmk
      go_wp2_with (fail)
      refine ⟨⟨k + 1, by omega, by go_num, ⟨_, by rw [Array.size_setIfInBounds]; exact hcs', hq, hmk2.out⟩, grown_setCell hw⟩, ?_⟩
      simp [intOf]; omega
    · obtain rfl : k = n := by omega
      have hd : decide ((k : Int) < (k : Int)) = false := by simp
      go_wp2_with (fail)
      go_loopw [0, 5] (fun v i wr => ∃ (j g' c' : Nat) (xs : List Value), j ≤ 90 ∧ i = .int .i64 j ∧ v = .slice (some ⟨g', 0, none⟩) (k + j) c' ∧ wr.ownsRow 0 5 1 (.slice (some ⟨g', 0, none⟩) (k + j) c') (k + j) xs ∧ (g' = g ∧ c' = cap ∨ w.heap.size ≤ g') ∧ (∀ i, i < k → xs[i]? = some (.int .u8 x)) ∧ (∃ cur' : Array Value, cur'.size = cap ∧ wr.heap[g]? = some (.cells cur' 5 (0, 0)) ∧ ∀ i, i < k → cur'[i]? = some (.int .u8 x)) ∧ w.grownBy wr (some g)) (fun _ i _ => 90 - (intOf i).toNat)
      case atStart =>
        refine ⟨0, g, cap, cur'.toList.take k, by omega, rfl, rfl, ⟨by simp; omega, .inr ⟨g, cap, cur', rfl, Nat.zero_le _, hg', hn, hm, by omega, by simp⟩⟩, .inl ⟨rfl, rfl⟩, fun i hi => ?_, ⟨cur', hcs', hg', hmk⟩, hw⟩
        rw [List.getElem?_take_of_lt hi, Array.getElem?_toList]
        exact hmk i hi
      case round =>
        clear hg' hw hd hmk
        obtain ⟨j, g', c', xs, hj, rfl, rfl, hown, hgg, hxs, ⟨cu, hcu, hgu, hmu⟩, hw⟩ := hrel
        have hws := hw.size
        by_cases hlt2 : j < 90
        · have hd : decide ((j : Int) < 90) = true := by simp; omega
          have hown_ := hown.alloc (.cells #[.int .u8 x] 5)
          replace hxs := hide hxs
          replace hmu := hide hmu
          go_wp2_with (at_builtin; suffices h9 : True ∧ _ from h9.2)
          refine ⟨trivial, ?_⟩
          refine wpList_plain rfl fun _ hK => wp_append_where (.tmp 20) (.tmp 22) 24 rfl 0 5 i0 (.int .u8 0) 1 1 Try.underlying24 hi hz0 hz1 hz2 rfl (by decide) (.slice (some ⟨g', 0, none⟩) (k + j) c') (k + j) xs rfl hown_ ⟨wr.heap.size, 0, none⟩ 1 1 [.int .u8 x] rfl rfl (by decide) (new_cell wr x) (by simp [Value.oneCell']) (by unfold maxLen; omega) (by omega) (Nat.zero_le _) (fun v2 w2 hown2 hgrow hkey => hK _ _ ?_)
          have hga : w.grownBy (wr.alloc (.cells #[.int .u8 x] 5)) (some g) := grown_trans hw (World.grownBy_alloc wr _ none) (.inl rfl)
          have hgb : w.grownBy w2 (some g) := grown_trans hga hgrow (by rcases hgg with ⟨rfl, _⟩ | h; exact .inr (.inl rfl); exact .inr (.inr ⟨_, rfl, h⟩))
          have hxs2 : ∀ i, i < k → (xs ++ [Value.int .u8 x])[i]? = some (.int .u8 x) := fun i hi => by
            have := hxs.out i hi
            rw [List.getElem?_append_left (List.getElem?_eq_some_iff.1 this).1]
            exact this
          have hga2 : (wr.alloc (.cells #[.int .u8 x] 5)).heap[g]? = some (.cells cu 5 (0, 0)) := keep ((Below.refl wr.heap.size wr).alloc (Nat.le_refl _) _) hgu
          have hgl2 := lt_of_row hgu
          obtain ⟨g2, c2, rfl⟩ : ∃ g2 c2, v2 = .slice (some ⟨g2, 0, none⟩) (k + (j + 1)) c2 := by
            rcases hown2.2 with ⟨_, h0⟩ | ⟨g2, c2, _, hv2, _⟩
            · omega
            · exact ⟨g2, c2, hv2⟩
          have hown3 : w2.ownsRow 0 5 1 (.slice (some ⟨g2, 0, none⟩) (k + (j + 1)) c2) (k + (j + 1)) (xs ++ [.int .u8 x]) := hown2
          have hfin : (g2 = g ∧ c2 = cap ∨ w.heap.size ≤ g2) ∧ ∃ cur' : Array Value, cur'.size = cap ∧ w2.heap[g]? = some (.cells cur' 5 (0, 0)) ∧ ∀ i, i < k → cur'[i]? = some (.int .u8 x) := by
            rcases hkey with ⟨g7, c7, he1, he2⟩ | ⟨k2, he, hk2, hold⟩
            · cases he1
              cases he2
              rcases hgg with ⟨e3, e4⟩ | h
              · subst e3
                rcases hown3.2 with ⟨hv, _⟩ | ⟨g5, c5, cu5, hv, _, hg5, hn5, _, hs5, ht5⟩
                · cases hv
                · cases hv
                  have hsz : cu5.size = c' := by rw [hs5, Nat.mul_one]
                  refine ⟨.inl ⟨rfl, e4⟩, cu5, by omega, hg5, fun i hi => ?_⟩
                  have := hxs2 i hi
                  rw [← ht5, List.getElem?_take_of_lt (by omega), Array.getElem?_toList] at this
                  exact this
              · refine ⟨.inr h, cu, hcu, ?_, hmu.out⟩
                rw [hgrow.block g (by rw [size_alloc1]; omega) (by intro e; simp [Value.ownBlock] at e; omega)]
                exact hga2
            · have e2 : g2 = k2 := by simpa [Value.ownBlock] using he
              subst e2
              rw [size_alloc1] at hk2
              refine ⟨.inr (by omega), cu, hcu, ?_, hmu.out⟩
              rw [hold g (by rw [size_alloc1]; omega)]
              exact hga2
          clear hown hown_ hown2 hgrow hga hw hkey hga2 hxs hmu
          replace hxs2 := hide hxs2
          replace hfin := hide hfin
          go_wp2_with (fail)
          refine ⟨⟨j + 1, g2, c2, _, by omega, by go_num, rfl, hown3, hfin.out.1, hxs2.out, hfin.out.2, hgb⟩, ?_⟩
          simp [intOf]; omega
        · obtain rfl : j = 90 := by omega
          have hd : decide ((90 : Int) < 90) = false := by decide
          clear hxs
          replace hmu := hide hmu
          go_wp2_with (fail)
          go_end0
          exact ⟨rfl, hw, cu, hgu, hcu, hmu.out⟩
end Go.Proofs.Ytohjcdmhejmnfaa
