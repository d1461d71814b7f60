import Derived.Test.YtebgdenfaiinmaaProg
import Derived.WalkKit
import Derived.WalkSpells
import Derived.WalkLawsBesides
import Derived.Lib.QuietBelow
import Derived.BigQuiet
import Derived.OrdersHeld
import Derived.Deep.RegionHeld3
import Derived.OwnWalk
import Derived.Test.YtebgdenfaiinmaaKit
import Derived.Test.YtebgdenfaiinmaaSpi
namespace Go.Proofs.Ytebgdenfaiinmaa
open Go Go.RowKit Go.Sort Go.ChangeMaps Go.MapKept
attribute [local go_sem] setCell_drewN alloc_drewN

/-- A label's place, or -1. -/
def plI (l : List Sr) (x : Lb) : Int := match plc x (l.map Sr.lb) with | some i => (i : Int) | none => -1
theorem plc_app {κ : Type} [DecidableEq κ] (x : κ) : ∀ (a b : List κ), x ∉ a → plc x (a ++ b) = (plc x b).map (· + a.length)
  | [], b, _ => by cases h : plc x b <;> simp [h]
  | y :: r, b, h => by
    have h1 : x ≠ y := fun e => h (by simp [e])
    have h2 : x ∉ r := fun e => h (by simp [e])
    rw [List.cons_append, plc, if_neg h1, plc_app x r b h2]
    cases h3 : plc x b <;> simp [Nat.add_assoc]
theorem plI_hit {l : List Sr} {k : Nat} (hk : k < l.length) {x : Lb} (hn : x ∉ (l.take k).map Sr.lb) (e : x = (gs l k).lb) : plI l x = k := by
  have h : l.map Sr.lb = (l.take k).map Sr.lb ++ (gs l k).lb :: (l.drop (k + 1)).map Sr.lb := by
    rw [← List.map_cons, ← List.map_append]
    congr 1
    rw [← List.singleton_append, ← List.append_assoc, ← take_snocS l k hk, List.take_append_drop]
  unfold plI
  rw [h, plc_app x _ _ hn, plc, if_pos e]
  simp
  omega
theorem plI_none {l : List Sr} {x : Lb} (hn : x ∉ l.map Sr.lb) : plI l x = -1 := by
  unfold plI
  rw [(plc_none x _).2 hn]
set_option maxRecDepth 100000 in
set_option maxHeartbeats 4000000 in
theorem a_Index (base : Nat) (v : Value) (l : List Sr) (hok : AllOk l) (hln : l.length ≤ 2000) (x : Lb) (hx : lok x) (w : World) (hO : w.ownsRow base 86 33 v l.length (lbs l)) : Calls Try.prog 49 #[v, .agg (chc x.1 x.2)] w fun e w' => e = .returned (.int .i64 (plI l x)) ∧ Below w.heap.size w w' := by
  obtain ⟨ao, cap, rfl⟩ := slen_own hO
  have R00 := hp1_0 w (.cells (chc x.1 x.2) 86)
  have hw0 : Below w.heap.size w (w.alloc (.cells (chc x.1 x.2) 86)) := (Below.refl _ _).alloc (Nat.le_refl _) _
  go_enter Try.func49, Try.ntmps49
  go_wp2_with (first | (refine wpList_box rfl 86 _ rfl _ rfl (bLb _) ?_) | fail)
  go_loopw [8] (fun i wr => ∃ k : Nat, k ≤ l.length ∧ i = .int .i64 k ∧ Below w.heap.size w wr ∧ wr.heap[w.heap.size]? = some (.cells (chc x.1 x.2) 86 (0, 0)) ∧ Hid (x ∉ (l.take k).map Sr.lb)) (fun i _ => l.length - (intOf i).toNat)
  case atStart => exact ⟨0, by omega, rfl, hw0, R00, hide (by simp)⟩
  case round =>
    clear hw0 R00
    obtain ⟨k, hk, rfl, hw, R0, htk⟩ := hrel
    by_cases hlt : k < l.length
    · have hd : decide ((k : Int) < (l.length : Int)) = true := by simp; omega
      have hko := hok.at hlt
      obtain ⟨gl, rfl, r1, hgl⟩ : ∃ gl, ao = some ⟨gl, 0, none⟩ ∧ w.rangeAt gl (k * 33) (lbl (gs l k)) ∧ gl < w.heap.size := by
        have h0 := hO
        obtain ⟨_, ⟨e, h3⟩ | ⟨gl, cap2, cur, e, hb, hg, _⟩⟩ := h0
        · omega
        · cases e
          exact ⟨gl, rfl, range_own hO (flat_mem (fun s hs => lbl_len (hok s hs)) hlt), lt_of_row hg⟩
      have hk1 : 0 ≤ (k : Int) ∧ (k : Int) < (l.length : Int) := by omega
      have hil : (Try.prog.info? 86).map (·.size) = some (lbl (gs l k)).length := by rw [lbl_len hko]; kernel_rfl
      have hn1 : x ≠ (gs l k).lb → Hid (x ∉ (l.take (k + 1)).map Sr.lb) := fun e => hide (by rw [take_snocS l k hlt, List.map_append, List.mem_append]; rintro (h | h); exact htk.out h; simp at h; exact e h)
      have hn2 : x = (gs l k).lb → plI l x = k := plI_hit hlt htk.out
      replace r1 := rangeAt_keep r1 (hw.block gl hgl)
      clear hO htk
      go_wp2_with (fail)
      have hbd : Below wr.heap.size wr wr.drew := below_drN (Below.refl _ _) 1
      replace r1 := rangeAt_keep r1 (hbd.block gl (Nat.lt_of_lt_of_le hgl hw.size))
      replace R0 := keep hbd R0
      replace hw := Below.after hw hbd
      clear hbd
      refine wp_region_noPanic ?_
      refine wp_region_held (S := fun W => W.heap[w.heap.size]? = some (.cells (chc x.1 x.2) 86 (0, 0)) ∧ W.rangeAt gl (k * 33) (lbl (gs l k))) (by kernel_rfl) ?_
      change wpAnyH _ _ _ _ _ _ _ _ (World.drew _)
      generalize wr.drew = w1 at *
      refine wpAnyH_take (i := 0) (v := .agg (chc x.1 x.2)) rfl (by kernel_rfl) (by kernel_rfl) (by kernel_rfl) (fun _ _ _ h => h) (Or.inl ⟨by rfl, ?y1⟩) ⟨R0, r1⟩ ?r1
      case y1 =>
        intro w_ hS_
        simp only [List.getElem_toArray, List.getElem_cons_zero]
        exact run_load_part 86 _ (by rfl) (w.heap.size) 0 (by rfl) 86 (chc x.1 x.2) (0, 0) (chc x.1 x.2) _ (hS_.1) (all_row _) Try.underlying86 rfl (infoL _ hx _)
      simp only [Act.put, List.getElem_toArray, List.getElem_cons_zero, List.setIfInBounds_toArray, List.set_cons_succ, List.set_cons_zero]
      refine wpAnyH_take (i := 1) (v := ?v2) rfl (by kernel_rfl) (by kernel_rfl) (by kernel_rfl) (fun _ _ _ h => h) (Or.inl ⟨by rfl, ?y2⟩) ⟨R0, r1⟩ ?r2
      case y2 =>
        intro w_ hS_
        go_simp
        try with_reducible rfl
      simp only [Act.put, List.getElem_toArray, List.getElem_cons_succ, List.getElem_cons_zero, List.setIfInBounds_toArray, List.set_cons_succ, List.set_cons_zero]
      refine wpAnyH_take (i := 2) (v := ?v3) rfl (by kernel_rfl) (by kernel_rfl) (by kernel_rfl) (fun _ _ _ h => h) (Or.inl ⟨by rfl, ?y3⟩) ⟨R0, r1⟩ ?r3
      case y3 =>
        intro w_ hS_
        go_simp
        try with_reducible rfl
      simp only [Act.put, List.getElem_toArray, List.getElem_cons_succ, List.getElem_cons_zero, List.setIfInBounds_toArray, List.set_cons_succ, List.set_cons_zero]
      refine wpAnyH_take (i := 3) (v := ?v4) rfl (by kernel_rfl) (by kernel_rfl) (by kernel_rfl) (fun _ _ _ h => h) (Or.inl ⟨by rfl, ?y4⟩) ⟨R0, r1⟩ ?r4
      case y4 =>
        intro w_ hS_
        go_simp
        try with_reducible rfl
      simp only [Act.put, List.getElem_toArray, List.getElem_cons_succ, List.getElem_cons_zero, List.setIfInBounds_toArray, List.set_cons_succ, List.set_cons_zero]
      refine wpAnyH_take (i := 4) (v := .agg (chc (gs l k).h (gs l k).n)) rfl (by kernel_rfl) (by kernel_rfl) (by kernel_rfl) (fun _ _ _ h => h) (Or.inl ⟨by rfl, ?y5⟩) ⟨R0, r1⟩ ?r5
      case y5 =>
        intro w_ hS_
        simp only [List.getElem_toArray, List.getElem_cons_succ, List.getElem_cons_zero]
        exact run_load_range 86 _ (by rfl) gl (k * 33) (by rfl) (lbl (gs l k)) _ hS_.2 Try.underlying86 rfl hil
      simp only [Act.put, List.getElem_toArray, List.getElem_cons_succ, List.getElem_cons_zero, List.setIfInBounds_toArray, List.set_cons_succ, List.set_cons_zero]
      refine wpAnyH_take (i := 5) (v := .bool (decide (x = (gs l k).lb))) rfl (by kernel_rfl) (by kernel_rfl) (by kernel_rfl) (fun _ _ _ h => h) (Or.inl ⟨by rfl, ?y6⟩) ⟨R0, r1⟩ ?r6
      case y6 =>
        intro w_ hS_
        simp only [List.getElem_toArray, List.getElem_cons_succ, List.getElem_cons_zero]
        exact run_eql_op 86 86 _ _ (by rfl) (chc x.1 x.2) (chc (gs l k).h (gs l k).n) (by rfl) (by rfl) egL _ (eq_lab x (gs l k).lb hx hko.1 w_)
      simp only [Act.put, List.getElem_toArray, List.getElem_cons_succ, List.getElem_cons_zero, List.setIfInBounds_toArray, List.set_cons_succ, List.set_cons_zero]
      refine wpAnyH_done (by kernel_rfl) ?_ _
      refine NoPanic.normal ?_
      by_cases he : x = (gs l k).lb
      · have hf := hn2 he
        have hdd : decide (x = (gs l k).lb) = true := by simpa using he
        rw [hdd]
        clear hn1 hn2 he hdd
        go_wp2_with (fail)
        go_ret
        exact ⟨by rw [hf]; rfl, hw⟩
      · have htk := hn1 he
        have hdd : decide (x = (gs l k).lb) = false := by simpa using he
        rw [hdd]
        clear hn1 hn2 he hdd
        go_wp2_with (fail)
        refine ⟨⟨k + 1, by omega, by go_num, hw, R0, htk⟩, ?_⟩
        simp [intOf]; omega
    · obtain rfl : k = l.length := by omega
      have hd : decide ((l.length : Int) < (l.length : Int)) = false := by simp
      have hf : plI l x = -1 := plI_none (by have := htk.out; rwa [List.take_length] at this)
      go_wp2_with (fail)
      go_ret
      exact ⟨by rw [hf]; rfl, hw⟩
theorem wp_append_room {w : World} {o : Oper} {a : Act} {K : Act → World → Prop} {Q : Exit → Act → World → Prop} (s x : Operand) (ho : o.op = .call { callee := .builtin .append, args := #[s, x], argTypes := #[69, 69] })
    (g sLen sCap : Nat) (cur : Array Value) (hg : w.heap[g]? = some (.cells cur 86 (0, 0))) (ad : Addr) (m c : Nat) (news : List Value) (hl : news.length = m * 33) (hnews : ∀ j u, news[j]? = some u → w.cell? (ad.add j) = some u) (h1 : ∀ u ∈ news, u.oneCell' = true) (hroom : sLen + m ≤ sCap) (hfit : sLen * 33 + news.length ≤ cur.size)
    (hs : a.eval s = .slice (some ⟨g, 0, none⟩) sLen sCap) (hx : a.eval x = .slice (some ad) m c)
    (h : K (a.put o.dst (.slice (some ⟨g, 0, none⟩) (sLen + m) sCap)) (w.setRow g (cur.toList.take (sLen * 33) ++ news ++ cur.toList.drop (sLen * 33 + news.length)).toArray)) : o.wp Try.prog a w K Q := by
  obtain ⟨i0, hi, hz0, hz1, hz2⟩ := infoLb
  have hr := run_append_room (P := Try.prog) w 69 o.type 86 i0 Try.underlying69 hi g sLen sCap cur hg ad m c news (by rw [hz1]; exact hl) hnews h1 hroom (by rw [hz1]; exact hfit)
  rw [hz1] at hr
  unfold Oper.wp execOp
  simp only [ho, resolve, invoke, builtin, Sem.run_bind, Sem.run_pure, Result.andThen_ok, List.map_toArray, List.map_cons, List.map_nil, hs, hx, hr]
  exact h
/-- Labels written over with zeros. -/
theorem run_clearL {w : World} (ty : TypeId) (g : Nat) (cur : Array Value) (hg : w.heap[g]? = some (.cells cur 86 (0, 0))) (off k c : Nat) (hk : k ≠ 0) (hfit : off + k * 33 ≤ cur.size) :
    ∃ zs : List Value, zs.length = k * 33 ∧ (Builtin.clear_ #[69] ty #[.slice (some ⟨g, off, none⟩) k c]).run Try.prog w = .ok (.tuple #[]) (w.setRow g (cur.toList.take off ++ zs ++ cur.toList.drop (off + zs.length)).toArray) := by
  have hzl : (Builtin.zeroCells (chc (zr 32) 0) k).toList.length = k * 33 := by simp [Builtin.zeroCells, chc_size _ (zr_len 32)]
  have hst := run_storeCells_at Try.prog g off 86 (Builtin.zeroCells (chc (zr 32) 0) k).toList 0 cur w hg (by rw [hzl]; simpa using hfit) (fun u hu => by
    simp only [Builtin.zeroCells, Array.toList_map, List.mem_map] at hu
    obtain ⟨i, _, rfl⟩ := hu
    have hlt : i % (chc (zr 32) 0).size < (chc (zr 32) 0).size := Nat.mod_lt _ (by rw [chc_size _ (zr_len 32)]; decide)
    rw [getElem!_pos (chc (zr 32) 0) (i % (chc (zr 32) 0).size) hlt]
    exact (Array.all_eq_true_iff_forall_mem.1 (chc_one (zr 32) 0)) _ (Array.getElem_mem hlt))
  have hzv : ∀ W, (zeroValue 86).run Try.prog W = .ok (.agg (chc (zr 32) 0)) W := fun W => by kernel_rfl
  refine ⟨_, hzl, ?_⟩
  cases k with
  | zero => exact absurd rfl hk
  | succ n =>
    simp only [Nat.add_zero] at hst
    simp [Builtin.clear_, run_underlying Try.underlying69, hzv, Value.cells, Result.andThen, hst]
theorem lbs_take {l : List Sr} (hok : AllOk l) (i : Nat) (hi : i ≤ l.length) : (lbs l).take (i * 33) = lbs (l.take i) := by
  have e : lbs l = lbs (l.take i) ++ lbs (l.drop i) := by rw [← lbs_app, List.take_append_drop]
  rw [e, List.take_append_of_le_length (by rw [lbs_len (hok.take i), List.length_take, Nat.min_eq_left hi]; exact Nat.le_refl _)]
  exact List.take_of_length_le (by rw [lbs_len (hok.take i), List.length_take, Nat.min_eq_left hi]; exact Nat.le_refl _)
theorem AllOk.drop {l : List Sr} (h : AllOk l) (k : Nat) : AllOk (l.drop k) := fun s hs => h s (List.mem_of_mem_drop hs)
theorem lbs_drop {l : List Sr} (hok : AllOk l) (j : Nat) (hj : j ≤ l.length) (t : Nat) : (lbs (l.drop j))[t]? = (lbs l)[j * 33 + t]? := by
  have e : lbs l = lbs (l.take j) ++ lbs (l.drop j) := by rw [← lbs_app, List.take_append_drop]
  have el : (lbs (l.take j)).length = j * 33 := by rw [lbs_len (hok.take j), List.length_take, Nat.min_eq_left hj]
  rw [e, List.getElem?_append_right (by rw [el]; omega), el]
  congr 1
  omega
set_option maxRecDepth 100000 in
set_option maxHeartbeats 4000000 in
theorem a_Delete (base gl cap : Nat) (cur : Array Value) (l : List Sr) (hok : AllOk l) (hln : l.length ≤ 2000) (i j m : Nat) (hij : i < j) (hj : j ≤ l.length) (hm0 : l.length - j = m) (w : World) (hg : w.heap[gl]? = some (.cells cur 86 (0, 0))) (hc : l.length ≤ cap) (hcm : cap ≤ maxLen) (hcs0 : cur.size = cap * 33) (hct0 : cur.toList.take (l.length * 33) = lbs l) (hb : base ≤ gl) : Calls Try.prog 55 #[.slice (some ⟨gl, 0, none⟩) l.length cap, .int .i64 i, .int .i64 j] w fun e w' => e = .returned (.slice (some ⟨gl, 0, none⟩) (i + m) cap) ∧ w'.ownsRow base 86 33 (.slice (some ⟨gl, 0, none⟩) (i + m) cap) (l.take i ++ l.drop j).length (lbs (l.take i ++ l.drop j)) ∧ Fr (fun k => k = gl) w w' := by
  have hcm2 : (cap : Int) ≤ 9223372036854775807 := by unfold maxLen at hcm; omega
  have hm := hide hm0
  clear hm0
  have hln2 : (l.take i ++ l.drop j).length = i + m := by rw [← hm.out]; exact (by rw [List.length_append, List.length_take, List.length_drop]; omega)
  have hln0 : (l.take i ++ l.drop j).length = i + (l.length - j) := by rw [List.length_append, List.length_take, List.length_drop]; omega
  have hcs := hide hcs0
  have hct := hide hct0
  clear hcs0 hct0
  have hd1 : decide ((i : Int) = (j : Int)) = false := by simp; omega
  have hij2 : (i : Int) ≤ (j : Int) := by omega
  have hjl : (j : Int) ≤ (l.length : Int) := by omega
  have hlc : (l.length : Int) ≤ (cap : Int) := by omega
  have hic : i ≤ cap := by omega
  have hjle : j ≤ l.length := hj
  have hnl : (lbs (l.drop j)).length = (l.length - j) * 33 := by rw [lbs_len (hok.drop j), List.length_drop]
  obtain ⟨ad, had⟩ : ∃ ad : Addr, Hid (ad = if cap = j then ⟨gl, 0, none⟩ else ⟨gl, j * 33, none⟩) := ⟨_, hide rfl⟩
  have hnc : ∀ t u, (lbs (l.drop j))[t]? = some u → w.drew.cell? (ad.add t) = some u := by
    intro t u hu
    have hjc : cap ≠ j := fun e => by
      have := (List.getElem?_eq_some_iff.1 hu).1
      rw [hnl] at this
      omega
    rw [had.out, if_neg hjc]
    rw [lbs_drop hok j hj, ← hct.out] at hu
    have ht : j * 33 + t < l.length * 33 := by
      have := (List.getElem?_eq_some_iff.1 hu).1
      rw [List.length_take] at this
      omega
    rw [List.getElem?_take_of_lt ht] at hu
    rw [addr_add]
    have : w.cell? ⟨gl, j * 33 + t, none⟩ = some u := by
      rw [cell_of_row _ _ _ _ _ _ hg]
      simpa using hu
    exact this
  have hf1 : Hid (i * 33 + (lbs (l.drop j)).length ≤ cur.size) := hide (by rw [hcs.out, hnl]; omega)
  have hct1 : Hid (cur.toList.take (i * 33) = lbs (l.take i)) := hide (by rw [← lbs_take hok i (by omega), ← hct.out, List.take_take, Nat.min_eq_left (by omega)])
  have hnlH := hide hnl
  clear hnl
  go_enter Try.func55, Try.ntmps55
  go_wp2_with (fail)
  replace hg : w.drew.heap[gl]? = some (.cells cur 86 (0, 0)) := hg
  have hfw : Fr (fun k => k = gl) w w.drew := Fr.of (below_drN (Below.refl _ _) 1)
  have hnl := hnlH.out
  refine wp_region_noPanic ?_
  refine wp_region_held (S := fun _ => True) (by kernel_rfl) ?_
  change wpAnyH _ _ _ _ _ _ _ _ (World.drew _)
  generalize w.drew = w1 at *
  refine wpAnyH_take (i := 0) (v := ?v7) rfl (by kernel_rfl) (by kernel_rfl) (by kernel_rfl) (fun _ _ _ h => h) (Or.inl ⟨by rfl, ?y7⟩) trivial ?r7
  case y7 =>
    intro w_ hS_
    go_simp
    try with_reducible rfl
  simp only [Act.put, List.getElem_toArray, List.getElem_cons_zero, List.setIfInBounds_toArray, List.set_cons_succ, List.set_cons_zero]
  refine wpAnyH_take (i := 1) (v := ?v8) rfl (by kernel_rfl) (by kernel_rfl) (by kernel_rfl) (fun _ _ _ h => h) (Or.inl ⟨by rfl, ?y8⟩) trivial ?r8
  case y8 =>
    intro w_ hS_
    go_simp
    try with_reducible rfl
  simp only [Act.put, List.getElem_toArray, List.getElem_cons_succ, List.getElem_cons_zero, List.setIfInBounds_toArray, List.set_cons_succ, List.set_cons_zero]
  refine wpAnyH_take (i := 2) (v := ?v9) rfl (by kernel_rfl) (by kernel_rfl) (by kernel_rfl) (fun _ _ _ h => h) (Or.inl ⟨by rfl, ?y9⟩) trivial ?r9
  case y9 =>
    intro w_ hS_
    go_simp
    try with_reducible rfl
  simp only [Act.put, List.getElem_toArray, List.getElem_cons_succ, List.getElem_cons_zero, List.setIfInBounds_toArray, List.set_cons_succ, List.set_cons_zero]
  refine wpAnyH_take (i := 3) (v := ?v10) rfl (by kernel_rfl) (by kernel_rfl) (by kernel_rfl) (fun _ _ _ h => h) (Or.inl ⟨by rfl, ?y10⟩) trivial ?r10
  case y10 =>
    intro w_ hS_
    go_simp
    try with_reducible rfl
  simp only [Act.put, List.getElem_toArray, List.getElem_cons_succ, List.getElem_cons_zero, List.setIfInBounds_toArray, List.set_cons_succ, List.set_cons_zero]
  refine wpAnyH_take (i := 4) (v := ?v11) rfl (by kernel_rfl) (by kernel_rfl) (by kernel_rfl) (fun _ _ _ h => h) (Or.inl ⟨by rfl, ?y11⟩) trivial ?r11
  case y11 =>
    intro w_ hS_
    go_simp
    try with_reducible rfl
  simp only [Act.put, List.getElem_toArray, List.getElem_cons_succ, List.getElem_cons_zero, List.setIfInBounds_toArray, List.set_cons_succ, List.set_cons_zero]
  refine wpAnyH_take (i := 5) (v := .slice (some ad) (l.length - j) (cap - j)) rfl (by kernel_rfl) (by kernel_rfl) (by kernel_rfl) (fun _ _ _ h => h) (Or.inl ⟨by rfl, ?y12⟩) trivial ?r12
  case y12 =>
    intro w_ hS_
    rw [had.out]
    go_simp
    try (split <;> rfl)
  simp only [Act.put, List.getElem_toArray, List.getElem_cons_succ, List.getElem_cons_zero, List.setIfInBounds_toArray, List.set_cons_succ, List.set_cons_zero]
  refine wpAnyH_one (k := 6) (fuel := 1) (by kernel_rfl) rfl (by kernel_rfl) (fun K_ hK => ?_)
  refine wp_append_room (.tmp 22) (.tmp 25) rfl gl i cap cur hg ad (l.length - j) (cap - j) (lbs (l.drop j)) hnl hnc (lbs_ones _) (by omega) hf1.out rfl rfl ?_
  refine hK _ _ trivial ?_
  simp only [Act.put, List.getElem_toArray, List.getElem_cons_succ, List.getElem_cons_zero, List.setIfInBounds_toArray, List.set_cons_succ, List.set_cons_zero]
  clear hK
  refine wpAnyH_take (i := 7) (v := ?v13) rfl (by kernel_rfl) (by kernel_rfl) (by kernel_rfl) (fun _ _ _ h => h) (Or.inl ⟨by rfl, ?y13⟩) trivial ?r13
  case y13 =>
    intro w_ hS_
    go_simp
    try with_reducible rfl
  simp only [Act.put, List.getElem_toArray, List.getElem_cons_succ, List.getElem_cons_zero, List.setIfInBounds_toArray, List.set_cons_zero]
  refine wpAnyH_done (by kernel_rfl) ?_ _
  refine NoPanic.normal ?_
  clear hnc
  have r1 := setRow_heap w1 gl _ (cur.toList.take (i * 33) ++ lbs (l.drop j) ++ cur.toList.drop (i * 33 + (lbs (l.drop j)).length)).toArray _ _ hg
  have hs1 : Hid ((cur.toList.take (i * 33) ++ lbs (l.drop j) ++ cur.toList.drop (i * 33 + (lbs (l.drop j)).length)).toArray.size = cap * 33) := hide (by
    have h1 := hf1.out
    have h2 := hcs.out
    rw [List.size_toArray, List.length_append, List.length_append, List.length_take, List.length_drop, Array.length_toList]
    omega)
  have ht1 : Hid ((cur.toList.take (i * 33) ++ lbs (l.drop j) ++ cur.toList.drop (i * 33 + (lbs (l.drop j)).length)).toArray.toList.take ((i + m) * 33) = lbs (l.take i ++ l.drop j)) := hide (by
    rw [← hm.out, hct1.out, lbs_app]
    show (lbs (l.take i) ++ lbs (l.drop j) ++ _).take _ = _
    rw [List.take_append_of_le_length (by rw [List.length_append, lbs_len (hok.take i), hnl, List.length_take, Nat.min_eq_left (by omega)]; omega)]
    exact List.take_of_length_le (by rw [List.length_append, lbs_len (hok.take i), hnl, List.length_take, Nat.min_eq_left (by omega)]; omega))
  replace hfw := hfw.setRow (b := gl) rfl (cur.toList.take (i * 33) ++ lbs (l.drop j) ++ cur.toList.drop (i * 33 + (lbs (l.drop j)).length)).toArray
  generalize (cur.toList.take (i * 33) ++ lbs (l.drop j) ++ cur.toList.drop (i * 33 + (lbs (l.drop j)).length)).toArray = cur2 at *
  generalize w1.setRow gl cur2 = w2 at *
  have hk1 : (i : Int) + ((l.length : Int) - (j : Int)) ≤ (l.length : Int) := by omega
  have hmm : (i : Int) + (m : Int) ≤ (l.length : Int) := by have := hm.out; omega
  have hmm2 : i + m < l.length := by have := hm.out; omega
  rw [hm.out]
  clear hnl hnlH hf1 hct1 hln0
  obtain ⟨zs, hzl, hcl⟩ := run_clearL 0 gl cur2 r1 ((i + m) * 33) (l.length - (i + m)) (cap - (i + m)) (by omega) (by rw [hs1.out]; omega)
  have hzlH := hide hzl
  clear hzl
  have r2 := setRow_heap w2 gl _ (cur2.toList.take ((i + m) * 33) ++ zs ++ cur2.toList.drop ((i + m) * 33 + zs.length)).toArray _ _ r1
  replace hfw := hfw.setRow (b := gl) rfl (cur2.toList.take ((i + m) * 33) ++ zs ++ cur2.toList.drop ((i + m) * 33 + zs.length)).toArray
  have hs2 : Hid ((cur2.toList.take ((i + m) * 33) ++ zs ++ cur2.toList.drop ((i + m) * 33 + zs.length)).toArray.size = cap * 33) := hide (by
    have h1 := hs1.out
    have h2 := hzlH.out
    rw [List.size_toArray, List.length_append, List.length_append, List.length_take, List.length_drop, Array.length_toList, h2, h1]
    omega)
  have ht2 : Hid ((cur2.toList.take ((i + m) * 33) ++ zs ++ cur2.toList.drop ((i + m) * 33 + zs.length)).toArray.toList.take ((i + m) * 33) = lbs (l.take i ++ l.drop j)) := hide (by
    show (cur2.toList.take ((i + m) * 33) ++ zs ++ _).take _ = _
    have h1 := hs1.out
    rw [List.append_assoc, List.take_append_of_le_length (by rw [List.length_take, Array.length_toList, h1]; omega), List.take_take, Nat.min_self]
    exact ht1.out)
  generalize (cur2.toList.take ((i + m) * 33) ++ zs ++ cur2.toList.drop ((i + m) * 33 + zs.length)).toArray = cur3 at *
  generalize w2.setRow gl cur3 = w3 at *
  have hln3 := hide hln2
  clear hln2 hs1 ht1 r1
  go_wp2_with (fail)
  go_ret
  refine ⟨rfl, ⟨?_, .inr ⟨gl, cap, cur3, by rw [hln3.out], hb, r2, by rw [hln3.out]; omega, hcm, hs2.out, by rw [hln3.out]; exact ht2.out⟩⟩, hfw⟩
  rw [lbs_len ((hok.take i).app (hok.drop j))]

end Go.Proofs.Ytebgdenfaiinmaa
