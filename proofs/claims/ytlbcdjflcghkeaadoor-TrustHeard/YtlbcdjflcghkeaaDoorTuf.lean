import Derived.Test.YtlbcdjflcghkeaaDoorProg
import Derived.WalkKit
import Derived.WalkSpells
import Derived.WalkLawsBesides
import Derived.Lib.QuietBelow
import Derived.BigQuiet
import Derived.OrdersHeld
import Derived.OwnWalk
import Derived.Deep.RegionHeld3
import Derived.Deep.Cut
import Derived.Deep.CutRange
import Derived.Maps.Own
import Derived.Laws.CopyOwn
import Derived.Lib.AppendZeros
import Derived.Deep.DeepAppendRoom
import Derived.Test.YtlbcdjflcghkeaaDoorTue
namespace Go.Proofs.YtlbcdjflcghkeaaDoor
set_option maxRecDepth 100000
open Go Go.RowKit Go.Sort Go.ChangeMaps Go.MapKept
attribute [local go_sem] setCell_drewN alloc_drewN
theorem wp_append_room {w : World} {o : Oper} {a : Act} {K : Act → World → Prop} {Q : Exit → Act → World → Prop} (s x : Operand) (ho : o.op = .call { callee := .builtin .append, args := #[s, x], argTypes := #[49, 49] })
    (g sLen sCap : Nat) (cur : Array Value) (hg : w.heap[g]? = some (.cells cur 45 (0, 0))) (ad : Addr) (m c : Nat) (news : List Value) (hl : news.length = m * 66) (hnews : ∀ j u, news[j]? = some u → w.cell? (ad.add j) = some u) (h1 : ∀ u ∈ news, u.oneCell' = true) (hroom : sLen + m ≤ sCap) (hfit : sLen * 66 + news.length ≤ cur.size)
    (hs : a.eval s = .slice (some ⟨g, 0, none⟩) sLen sCap) (hx : a.eval x = .slice (some ad) m c)
    (h : K (a.put o.dst (.slice (some ⟨g, 0, none⟩) (sLen + m) sCap)) (w.setRow g (cur.toList.take (sLen * 66) ++ news ++ cur.toList.drop (sLen * 66 + news.length)).toArray)) : o.wp Tryd.prog a w K Q := by
  obtain ⟨i0, hi, hz0, hz1, hz2⟩ := infoCtz
  have hr := run_append_room (P := Tryd.prog) w 49 o.type 45 i0 Tryd.underlying49 hi g sLen sCap cur hg ad m c news (by rw [hz1]; exact hl) hnews h1 hroom (by rw [hz1]; exact hfit)
  rw [hz1] at hr
  unfold Oper.wp execOp
  simp only [ho, resolve, invoke, builtin, Sem.run_bind, Sem.run_pure, Result.andThen_ok, List.map_toArray, List.map_cons, List.map_nil, hs, hx, hr]
  exact h
/-- Labels written over with zeros. -/
theorem run_clearC {w : World} (ty : TypeId) (g : Nat) (cur : Array Value) (hg : w.heap[g]? = some (.cells cur 45 (0, 0))) (off k c : Nat) (hk : k ≠ 0) (hfit : off + k * 66 ≤ cur.size) :
    ∃ zs : List Value, zs.length = k * 66 ∧ (Builtin.clear_ #[49] ty #[.slice (some ⟨g, off, none⟩) k c]).run Tryd.prog w = .ok (.tuple #[]) (w.setRow g (cur.toList.take off ++ zs ++ cur.toList.drop (off + zs.length)).toArray) := by
  have hzl : (Builtin.zeroCells (ctr zct) k).toList.length = k * 66 := by simp [Builtin.zeroCells, ctr_size zct rfl rfl]
  have hst := run_storeCells_at Tryd.prog g off 45 (Builtin.zeroCells (ctr zct) k).toList 0 cur w hg (by rw [hzl]; simpa using hfit) (fun u hu => by
    simp only [Builtin.zeroCells, Array.toList_map, List.mem_map] at hu
    obtain ⟨i, _, rfl⟩ := hu
    have hlt : i % (ctr zct).size < (ctr zct).size := Nat.mod_lt _ (by rw [ctr_size zct rfl rfl]; decide)
    rw [getElem!_pos (ctr zct) (i % (ctr zct).size) hlt]
    exact (Array.all_eq_true_iff_forall_mem.1 (ctr_one zct)) _ (Array.getElem_mem hlt))
  have hzv : ∀ W, (zeroValue 45).run Tryd.prog W = .ok (.agg (ctr zct)) W := fun W => by kernel_rfl
  refine ⟨_, hzl, ?_⟩
  cases k with
  | zero => exact absurd rfl hk
  | succ n =>
    simp only [Nat.add_zero] at hst
    simp [Builtin.clear_, run_underlying Tryd.underlying49, hzv, Value.cells, Result.andThen, hst]
theorem cts_at {l : List Ct} (hok : AllC l) (j : Nat) (hj : j ≤ l.length) (t : Nat) : (cts (l.drop j))[t]? = (cts l)[j * 66 + t]? := by
  have e : cts l = cts (l.take j) ++ cts (l.drop j) := by rw [← cts_app, List.take_append_drop]
  have el : (cts (l.take j)).length = j * 66 := by rw [cts_len (hok.take j), List.length_take, Nat.min_eq_left hj]
  rw [e, List.getElem?_append_right (by rw [el]; omega), el]
  congr 1
  omega
set_option maxRecDepth 100000 in
set_option maxHeartbeats 8000000 in
theorem a_Delete (base gl cap : Nat) (cur : Array Value) (l : List Ct) (hok : AllC l) (hln : l.length ≤ 2000) (i j m : Nat) (hij : i < j) (hj : j ≤ l.length) (hm0 : l.length - j = m) (w : World) (hg : w.heap[gl]? = some (.cells cur 45 (0, 0))) (hc : l.length ≤ cap) (hcm : cap ≤ maxLen) (hcs0 : cur.size = cap * 66) (hct0 : cur.toList.take (l.length * 66) = cts l) (hb : base ≤ gl) : Calls Tryd.prog 65 #[.slice (some ⟨gl, 0, none⟩) l.length cap, .int .i64 i, .int .i64 j] w fun e w' => e = .returned (.slice (some ⟨gl, 0, none⟩) (i + m) cap) ∧ w'.ownsRow base 45 66 (.slice (some ⟨gl, 0, none⟩) (i + m) cap) (l.take i ++ l.drop j).length (cts (l.take i ++ l.drop j)) ∧ Fr (fun k => k = gl) w w' := by
  have hcm2 : (cap : Int) ≤ 9226672036854775807 := by unfold maxLen at hcm; omega
  have hm := hide hm0
  clear hm0
  have hln2 : (l.take i ++ l.drop j).length = i + m := by rw [← hm.out]; exact (by rw [List.length_append, List.length_take, List.length_drop]; omega)
  have hln0 : (l.take i ++ l.drop j).length = i + (l.length - j) := by rw [List.length_append, List.length_take, List.length_drop]; omega
  have hcs := hide hcs0
  have hct := hide hct0
  clear hcs0 hct0
  have hd1 : decide ((i : Int) = (j : Int)) = false := by simp; omega
  have hij2 : (i : Int) ≤ (j : Int) := by omega
  have hjl : (j : Int) ≤ (l.length : Int) := by omega
  have hlc : (l.length : Int) ≤ (cap : Int) := by omega
  have hic : i ≤ cap := by omega
  have hjle : j ≤ l.length := hj
  have hnl : (cts (l.drop j)).length = (l.length - j) * 66 := by rw [cts_len (hok.drop j), List.length_drop]
  obtain ⟨ad, had⟩ : ∃ ad : Addr, Hid (ad = if cap = j then ⟨gl, 0, none⟩ else ⟨gl, j * 66, none⟩) := ⟨_, hide rfl⟩
  have hnc : ∀ t u, (cts (l.drop j))[t]? = some u → w.drew.cell? (ad.add t) = some u := by
    intro t u hu
    have hjc : cap ≠ j := fun e => by
      have := (List.getElem?_eq_some_iff.1 hu).1
      rw [hnl] at this
      omega
    rw [had.out, if_neg hjc]
    rw [cts_at hok j hj, ← hct.out] at hu
    have ht : j * 66 + t < l.length * 66 := by
      have := (List.getElem?_eq_some_iff.1 hu).1
      rw [List.length_take] at this
      omega
    rw [List.getElem?_take_of_lt ht] at hu
    rw [addr_add]
    have : w.cell? ⟨gl, j * 66 + t, none⟩ = some u := by
      rw [cell_of_row _ _ _ _ _ _ hg]
      simpa using hu
    exact this
  have hf1 : Hid (i * 66 + (cts (l.drop j)).length ≤ cur.size) := hide (by rw [hcs.out, hnl]; omega)
  have hct1 : Hid (cur.toList.take (i * 66) = cts (l.take i)) := hide (by rw [← cts_take hok i (by omega), ← hct.out, List.take_take, Nat.min_eq_left (by omega)])
  have hnlH := hide hnl
  clear hnl
  go_enter Tryd.func65, Tryd.ntmps65
  go_wp2_with (fail)
  replace hg : w.drew.heap[gl]? = some (.cells cur 45 (0, 0)) := hg
  have hfw : Fr (fun k => k = gl) w w.drew := Fr.of (below_drN (Below.refl _ _) 1)
  have hnl := hnlH.out
  refine wp_region_noPanic ?_
  refine wp_region_held (S := fun _ => True) (by kernel_rfl) ?_
  change wpAnyH _ _ _ _ _ _ _ _ (World.drew _)
  generalize w.drew = w1 at *
  refine wpAnyH_take (i := 0) (v := ?v1) rfl (by kernel_rfl) (by kernel_rfl) (by kernel_rfl) (fun _ _ _ h => h) (Or.inl ⟨by rfl, ?y1⟩) trivial ?r1
  case y1 =>
    intro w_ hS_
    go_simp
    try with_reducible rfl
  simp only [Act.put, List.getElem_toArray, List.getElem_cons_zero, List.setIfInBounds_toArray, List.set_cons_succ, List.set_cons_zero]
  refine wpAnyH_take (i := 1) (v := ?v2) rfl (by kernel_rfl) (by kernel_rfl) (by kernel_rfl) (fun _ _ _ h => h) (Or.inl ⟨by rfl, ?y2⟩) trivial ?r2
  case y2 =>
    intro w_ hS_
    go_simp
    try with_reducible rfl
  simp only [Act.put, List.getElem_toArray, List.getElem_cons_succ, List.getElem_cons_zero, List.setIfInBounds_toArray, List.set_cons_succ, List.set_cons_zero]
  refine wpAnyH_take (i := 2) (v := ?v3) rfl (by kernel_rfl) (by kernel_rfl) (by kernel_rfl) (fun _ _ _ h => h) (Or.inl ⟨by rfl, ?y3⟩) trivial ?r3
  case y3 =>
    intro w_ hS_
    go_simp
    try with_reducible rfl
  simp only [Act.put, List.getElem_toArray, List.getElem_cons_succ, List.getElem_cons_zero, List.setIfInBounds_toArray, List.set_cons_succ, List.set_cons_zero]
  refine wpAnyH_take (i := 3) (v := ?v4) rfl (by kernel_rfl) (by kernel_rfl) (by kernel_rfl) (fun _ _ _ h => h) (Or.inl ⟨by rfl, ?y4⟩) trivial ?r4
  case y4 =>
    intro w_ hS_
    go_simp
    try with_reducible rfl
  simp only [Act.put, List.getElem_toArray, List.getElem_cons_succ, List.getElem_cons_zero, List.setIfInBounds_toArray, List.set_cons_succ, List.set_cons_zero]
  refine wpAnyH_take (i := 4) (v := ?v5) rfl (by kernel_rfl) (by kernel_rfl) (by kernel_rfl) (fun _ _ _ h => h) (Or.inl ⟨by rfl, ?y5⟩) trivial ?r5
  case y5 =>
    intro w_ hS_
    go_simp
    try with_reducible rfl
  simp only [Act.put, List.getElem_toArray, List.getElem_cons_succ, List.getElem_cons_zero, List.setIfInBounds_toArray, List.set_cons_succ, List.set_cons_zero]
  refine wpAnyH_take (i := 5) (v := .slice (some ad) (l.length - j) (cap - j)) rfl (by kernel_rfl) (by kernel_rfl) (by kernel_rfl) (fun _ _ _ h => h) (Or.inl ⟨by rfl, ?y6⟩) trivial ?r6
  case y6 =>
    intro w_ hS_
    rw [had.out]
    go_simp
    try (split <;> rfl)
  simp only [Act.put, List.getElem_toArray, List.getElem_cons_succ, List.getElem_cons_zero, List.setIfInBounds_toArray, List.set_cons_succ, List.set_cons_zero]
  refine eH_one (k := 6) (fuel := 1) (by kernel_rfl) rfl (by kernel_rfl) (fun K_ hK => ?_)
  refine wp_append_room (.tmp 22) (.tmp 25) rfl gl i cap cur hg ad (l.length - j) (cap - j) (cts (l.drop j)) hnl hnc (cts_ones _) (by omega) hf1.out rfl rfl ?_
  refine hK _ _ trivial ?_
  simp only [Act.put, List.getElem_toArray, List.getElem_cons_succ, List.getElem_cons_zero, List.setIfInBounds_toArray, List.set_cons_succ, List.set_cons_zero]
  clear hK
  refine wpAnyH_take (i := 7) (v := ?v7) rfl (by kernel_rfl) (by kernel_rfl) (by kernel_rfl) (fun _ _ _ h => h) (Or.inl ⟨by rfl, ?y7⟩) trivial ?r7
  case y7 =>
    intro w_ hS_
    go_simp
    try with_reducible rfl
  simp only [Act.put, List.getElem_toArray, List.getElem_cons_succ, List.getElem_cons_zero, List.setIfInBounds_toArray, List.set_cons_zero]
  refine wpAnyH_done (by kernel_rfl) ?_ _
  refine NoPanic.normal ?_
  clear hnc
  have r1 := setRow_heap w1 gl _ (cur.toList.take (i * 66) ++ cts (l.drop j) ++ cur.toList.drop (i * 66 + (cts (l.drop j)).length)).toArray _ _ hg
  have hs1 : Hid ((cur.toList.take (i * 66) ++ cts (l.drop j) ++ cur.toList.drop (i * 66 + (cts (l.drop j)).length)).toArray.size = cap * 66) := hide (by
    have h1 := hf1.out
    have h2 := hcs.out
    rw [List.size_toArray, List.length_append, List.length_append, List.length_take, List.length_drop, Array.length_toList]
    omega)
  have ht1 : Hid ((cur.toList.take (i * 66) ++ cts (l.drop j) ++ cur.toList.drop (i * 66 + (cts (l.drop j)).length)).toArray.toList.take ((i + m) * 66) = cts (l.take i ++ l.drop j)) := hide (by
    rw [← hm.out, hct1.out, cts_app]
    show (cts (l.take i) ++ cts (l.drop j) ++ _).take _ = _
    rw [List.take_append_of_le_length (by rw [List.length_append, cts_len (hok.take i), hnl, List.length_take, Nat.min_eq_left (by omega)]; omega)]
    exact List.take_of_length_le (by rw [List.length_append, cts_len (hok.take i), hnl, List.length_take, Nat.min_eq_left (by omega)]; omega))
  replace hfw := hfw.setRow (b := gl) rfl (cur.toList.take (i * 66) ++ cts (l.drop j) ++ cur.toList.drop (i * 66 + (cts (l.drop j)).length)).toArray
  generalize (cur.toList.take (i * 66) ++ cts (l.drop j) ++ cur.toList.drop (i * 66 + (cts (l.drop j)).length)).toArray = cur2 at *
  generalize w1.setRow gl cur2 = w2 at *
  have hk1 : (i : Int) + ((l.length : Int) - (j : Int)) ≤ (l.length : Int) := by omega
  have hmm : (i : Int) + (m : Int) ≤ (l.length : Int) := by have := hm.out; omega
  have hmm2 : i + m < l.length := by have := hm.out; omega
  rw [hm.out]
  clear hnl hnlH hf1 hct1 hln0
  obtain ⟨zs, hzl, hcl⟩ := run_clearC 0 gl cur2 r1 ((i + m) * 66) (l.length - (i + m)) (cap - (i + m)) (by omega) (by rw [hs1.out]; omega)
  have hzlH := hide hzl
  clear hzl
  have r2 := setRow_heap w2 gl _ (cur2.toList.take ((i + m) * 66) ++ zs ++ cur2.toList.drop ((i + m) * 66 + zs.length)).toArray _ _ r1
  replace hfw := hfw.setRow (b := gl) rfl (cur2.toList.take ((i + m) * 66) ++ zs ++ cur2.toList.drop ((i + m) * 66 + zs.length)).toArray
  have hs2 : Hid ((cur2.toList.take ((i + m) * 66) ++ zs ++ cur2.toList.drop ((i + m) * 66 + zs.length)).toArray.size = cap * 66) := hide (by
    have h1 := hs1.out
    have h2 := hzlH.out
    rw [List.size_toArray, List.length_append, List.length_append, List.length_take, List.length_drop, Array.length_toList, h2, h1]
    omega)
  have ht2 : Hid ((cur2.toList.take ((i + m) * 66) ++ zs ++ cur2.toList.drop ((i + m) * 66 + zs.length)).toArray.toList.take ((i + m) * 66) = cts (l.take i ++ l.drop j)) := hide (by
    show (cur2.toList.take ((i + m) * 66) ++ zs ++ _).take _ = _
    have h1 := hs1.out
    rw [List.append_assoc, List.take_append_of_le_length (by rw [List.length_take, Array.length_toList, h1]; omega), List.take_take, Nat.min_self]
    exact ht1.out)
  generalize (cur2.toList.take ((i + m) * 66) ++ zs ++ cur2.toList.drop ((i + m) * 66 + zs.length)).toArray = cur3 at *
  generalize w2.setRow gl cur3 = w3 at *
  have hln3 := hide hln2
  clear hln2 hs1 ht1 r1
  go_wp2_with (fail)
  go_ret
  refine ⟨rfl, ⟨?_, .inr ⟨gl, cap, cur3, by rw [hln3.out], hb, r2, by rw [hln3.out]; omega, hcm, hs2.out, by rw [hln3.out]; exact ht2.out⟩⟩, hfw⟩
  rw [cts_len ((hok.take i).app (hok.drop j))]
end Go.Proofs.YtlbcdjflcghkeaaDoor
