import Derived.Test.YtbaefbfejmpliaaGreatDoorJrn
import Derived.Test.YtbaefbfejmpliaaGreatDoorJry
import Derived.OwnWalk
import Derived.Deep.Cut
import Derived.Deep.RegionHeld3
import Derived.Deep.Slices
import Derived.ChangeSlices
import Derived.SizedLaws
namespace Go.Proofs.YtbaefbfejmpliaaGreatDoor
set_option maxRecDepth 100000
open Go Go.RowKit Go.Sort Go.ChangeShapes Go.WideShapes Go.Deep
attribute [local go_sem] setCell_drewN alloc_drewN
theorem cell_of {W : World} {g : Nat} {cs : Array Value} {t : TypeId} (hg : W.heap[g]? = some (.cells cs t (0, 0))) {j : Nat} {v : Value} (h : cs[j]? = some v) : W.cell? ⟨g, j, none⟩ = some v := by
  rw [cell_of_row _ _ _ _ _ _ hg]; exact h
theorem to_bl : ∀ (l : List Int), (∀ z ∈ l, 0 ≤ z ∧ z < 256) → ∃ bs : List B, l = bl bs ∧ bs.length = l.length
  | [], _ => ⟨[], rfl, rfl⟩
  | z :: r, h => by
    obtain ⟨n, hn⟩ := Int.eq_ofNat_of_zero_le (h z (by simp)).1
    have hz := (h z (by simp)).2
    obtain ⟨bs, e1, e2⟩ := to_bl r (fun y hy => h y (by simp [hy]))
    refine ⟨BitVec.ofNat 8 n :: bs, ?_, by simp [e2]⟩
    have e3 : z = bv (BitVec.ofNat 8 n) := by unfold bv; rw [BitVec.toNat_ofNat, hn]; omega
    rw [e1]
    show z :: bl bs = bv _ :: bl bs
    rw [← e3]
theorem eout_lim (fs : List Fd) : (eout fs).length ≤ 4194304 := by
  unfold eout
  split
  · rename_i h
    unfold eer at h
    split at h
    · cases h
    · split at h
      · contradiction
      · split at h
        · cases h
        · omega
  · exact Nat.zero_le _
/-- A list of bytes of one's own. -/
def OwnI (W : World) (b : Nat) (v : Value) (l : List Int) : Prop := W.ownsRow b 5 1 v l.length (l.map (Value.int .u8))
theorem OwnI.lt {W : World} {b : Nat} {v : Value} {l : List Int} (h : OwnI W b v l) : ∀ k, v.ownBlock = some k → b ≤ k ∧ k < W.heap.size := World.ownsRow.lt h
/-- A list of bytes under way: one's own, or the beginning of a block. -/
def Sec (W : World) (b : Nat) (v : Value) (l : List Int) : Prop := OwnI W b v l ∨ ∃ G cs, v = .slice (some ⟨G, 0, none⟩) l.length l.length ∧ b ≤ G ∧ W.heap[G]? = some (.cells cs 5 (0, 0)) ∧ cs.toList.take l.length = l.map (Value.int .u8)
theorem Sec.lt {W : World} {b : Nat} {v : Value} {l : List Int} (h : Sec W b v l) : ∀ k, v.ownBlock = some k → b ≤ k := by
  rcases h with h | ⟨G, cs, rfl, h1, h2, h3⟩
  · exact fun k hk => (World.ownsRow.lt h k hk).1
  · intro k hk; cases hk; exact h1
theorem conv_bys {W : World} {v : Value} {bs : List Int} (h : Bys W v bs) : (convert 27 9 v).run Tryz.prog W = .ok (.string (strOfNums bs)) W := by
  obtain ⟨ao, cap, rfl, _, hc, _⟩ := h
  cases ao with
  | none =>
    have : bs = [] := by
      cases bs with
      | nil => rfl
      | cons x xs => obtain ⟨b, off, e, _⟩ := hc 0 (by simp); cases e
    subst this
    exact run_convert_bytes_nil W 27 5 Tryz.underlying27 Tryz.underlying5 _ _ 9 Tryz.underlying9
  | some ad =>
    rcases Nat.eq_zero_or_pos bs.length with e0 | e0
    · have : bs = [] := List.eq_nil_of_length_eq_zero e0
      subst this
      obtain ⟨b, off, sp⟩ := ad
      rw [run_convert_bytes_string W 27 9 5 _ _ _ Tryz.underlying27 Tryz.underlying5 Tryz.underlying9]
      have := run_bytesToString (P := Tryz.prog) W ⟨b, off, sp⟩ 0 cap [] (by rfl)
      exact this
    · obtain ⟨b, off, e, _⟩ := hc 0 e0
      cases e
      exact run_convert_bytes_arg W 27 5 Tryz.underlying27 Tryz.underlying5 b off bs.length cap bs rfl (fun i hi => by
        obtain ⟨b', off', e, _, h⟩ := hc i hi
        cases e
        exact h) 9 Tryz.underlying9
theorem str_inj {a b : List Int} (ha : ∀ z ∈ a, 0 ≤ z ∧ z < 256) (hb : ∀ z ∈ b, 0 ≤ z ∧ z < 256) (h : strOfNums a = strOfNums b) : a = b := by
  have h1 := congrArg (fun x => x.data.toList) h
  simp only [strOfNums_data] at h1
  have key : ∀ (a b : List Int), (∀ z ∈ a, 0 ≤ z ∧ z < 256) → (∀ z ∈ b, 0 ≤ z ∧ z < 256) → a.map (fun n => UInt8.ofNat n.toNat) = b.map (fun n => UInt8.ofNat n.toNat) → a = b := by
    intro a
    induction a with
    | nil => intro b _ _ h; cases b with
      | nil => rfl
      | cons y ys => simp at h
    | cons x xs ih => intro b ha hb h; cases b with
      | nil => simp at h
      | cons y ys =>
        simp only [List.map_cons, List.cons.injEq] at h
        have hx := ha x (by simp)
        have hy := hb y (by simp)
        have e := congrArg UInt8.toNat h.1
        simp only [UInt8.toNat_ofNat'] at e
        rw [Nat.mod_eq_of_lt (by omega), Nat.mod_eq_of_lt (by omega)] at e
        have exy : x = y := by omega
        rw [exy, ih ys (fun z h => ha z (by simp [h])) (fun z h => hb z (by simp [h])) h.2]
  exact key a b ha hb h1
theorem str_dec {a b : List Int} (ha : ∀ z ∈ a, 0 ≤ z ∧ z < 256) (hb : ∀ z ∈ b, 0 ≤ z ∧ z < 256) : ((strOfNums a).toList == (strOfNums b).toList) = decide (a = b) := by
  by_cases h : a = b
  · subst h; simp
  · rw [decide_eq_false h, beq_eq_false_iff_ne]
    intro e
    rw [ByteArray.toList_eq, ByteArray.toList_eq] at e
    exact h (str_inj ha hb (Go.WideShapes.bytes_inj e))
set_option maxRecDepth 100000 in
set_option maxHeartbeats 4000000 in
theorem l_same (a b : List Int) (w : World) (u v : Value) (hu : Bys w u a) (hv : Bys w v b) : Calls Tryz.prog 11 #[u, v] w fun e w' => e = .returned (.bool (decide (a = b))) ∧ Below w.heap.size w w' := by
  have c1 := conv_bys hu
  have c2 := conv_bys hv
  obtain ⟨ao, cap, rfl, _, _, hza⟩ := hu
  obtain ⟨bo, bcap, rfl, _, _, hzb⟩ := hv
  go_enter Tryz.func11, Tryz.ntmps11
  have hd := str_dec hza hzb
  go_wp2
  go_ret
  exact ⟨rfl, Below.refl _ _⟩
/-- An append to a list of one's own: in place, or a new block and no other turns. -/
theorem wpList_append_cases {P : Program} (w : World) {ops : Array Oper} {rest : List Oper} {o : Oper} {a : Act} {Q : Exit → Act → World → Prop} (hgd : o.guard = none) (s x : Operand) (t : TypeId)
    (ho : o.op = .call { callee := .builtin .append, args := #[s, x], argTypes := #[t, t] })
    (base : Nat) (e : TypeId) (i : TypeInfo) (z : Value) (ht : P.underlying t = some (.slice e)) (hi : P.info? e = some i) (hz : i.zero = some z)
    (hsize : i.size = 1) (hby : i.bytes = 1) (hzs : z.cells.size = 1)
    (g n cap : Nat) (xs : List Value) (hs : a.eval s = .slice (some ⟨g, 0, none⟩) n cap) (hown : w.ownsRow base e 1 (.slice (some ⟨g, 0, none⟩) n cap) n xs)
    (ad : Addr) (m c : Nat) (news : List Value) (hx : a.eval x = .slice (some ad) m c) (hl : news.length = m * 1) (hnews : ∀ j u, news[j]? = some u → w.cell? (ad.add j) = some u) (h1 : ∀ u ∈ news, u.oneCell' = true)
    (h63 : n + m ≤ maxLen) (hbytes : (n + m) * 1 ≤ 140737488355328) (hbase : base ≤ w.heap.size)
    (hA : ∀ w', w'.ownsRow base e 1 (.slice (some ⟨g, 0, none⟩) (n + m) cap) (n + m) (xs ++ news) → w.grownBy w' (some g) → wpList P ops Q rest (a.put o.dst (.slice (some ⟨g, 0, none⟩) (n + m) cap)) w')
    (hB : ∀ v' w', w'.ownsRow w.heap.size e 1 v' (n + m) (xs ++ news) → w.grownBy w' none → wpList P ops Q rest (a.put o.dst v') w') : wpList P ops Q (o :: rest) a w := by
  refine wpList_plain hgd fun K hK => ?_
  obtain ⟨v', w', hr, h2, h3, _⟩ := run_append_own (P := P) w base t o.type e i z 1 1 ht hi hz hsize hby hzs (by decide) _ n xs hown ad m c news hl hnews h1 h63 hbytes hbase
  have holds : ∀ j u, xs[j]? = some u → w.cell? ((⟨g, 0, none⟩ : Addr).add j) = some u := hown.cells (g := g) rfl
  rcases hown.2 with ⟨hv, _⟩ | ⟨g1, cap1, cur, hv, hbg, hg, hnc, hcm, hcs, htake⟩
  · cases hv
  · cases hv
    by_cases hroom : n + m ≤ cap
    · have hr2 := run_append_room (P := P) w t o.type e i ht hi g n cap cur hg ad m c news (by rw [hsize]; exact hl) hnews h1 hroom (by rw [hsize, hl, hcs]; omega)
      have hh := hr.symm.trans hr2
      injection hh with e1 e2
      subst e1
      unfold Oper.wp execOp
      simp only [ho, resolve, invoke, builtin, Sem.run_bind, Sem.run_pure, Result.andThen_ok, List.map_toArray, List.map_cons, List.map_nil, hs, hx, hr]
      exact hK _ _ (hA w' h2 h3)
    · have hr2 := run_append_grow (P := P) w t o.type e i z ht hi hz ⟨g, 0, none⟩ n cap xs (by rw [hsize]; exact hown.1) holds ad m c news (by rw [hsize]; exact hl) hnews (by omega) (by simp only [maxLen] at h63; omega) (growslice_fits (by omega) (by rw [hby]; exact hbytes))
      have hh := hr.symm.trans hr2
      injection hh with e1 e2
      have hown2 : w'.ownsRow w.heap.size e 1 v' (n + m) (xs ++ news) := by
        obtain ⟨q1, ⟨hv, _⟩ | ⟨g1, cap1, cur, hv, hbg, hq⟩⟩ := h2
        · rw [e1] at hv; cases hv
        · have hv' := e1.symm.trans hv
          cases hv'
          exact ⟨q1, .inr ⟨w.heap.size, _, cur, hv, Nat.le_refl _, hq⟩⟩
      have hgr : w.grownBy w' none := by
        rw [e2]
        have hq := World.grownBy_alloc w.drew (.cells (xs.toArray ++ news.toArray ++ Builtin.zeroCells z.cells (grownCap w (n + m) cap e - (n + m))) e) none
        exact ⟨hq.os, hq.tape, hq.output, hq.size, hq.block⟩
      unfold Oper.wp execOp
      simp only [ho, resolve, invoke, builtin, Sem.run_bind, Sem.run_pure, Result.andThen_ok, List.map_toArray, List.map_cons, List.map_nil, hs, hx, hr]
      exact hK _ _ (hB v' w' hown2 hgr)
theorem or_lower {W : World} {b c n : Nat} {e : TypeId} {v : Value} {ys : List Value} (h : W.ownsRow b e 1 v n ys) (hc : c ≤ b) : W.ownsRow c e 1 v n ys := by
  obtain ⟨q1, q2 | ⟨g1, cap1, cur, hv, hbg, hq⟩⟩ := h
  · exact ⟨q1, .inl q2⟩
  · exact ⟨q1, .inr ⟨g1, cap1, cur, hv, Nat.le_trans hc hbg, hq⟩⟩
theorem or_cell {W : World} {b g m c t : Nat} {e : TypeId} {l : List Int} (h : W.ownsRow b e 1 (.slice (some ⟨g, 0, none⟩) m c) m (l.map (Value.int .u8))) (ht : t < m) : W.cell? ⟨g, t, none⟩ = some (.int .u8 (l.getD t 0)) ∧ W.frozen? ⟨g, t, none⟩ = false := by
  obtain ⟨q1, ⟨hv, _⟩ | ⟨g1, cap1, cur, hv, hbg, hg, hnc, hcm, hcs, htake⟩⟩ := h
  · cases hv
  · cases hv
    rw [List.length_map] at q1
    refine ⟨?_, row_frozen hg t⟩
    rw [cell_of_row _ _ _ _ _ _ hg]
    have h1 : (cur.toList.take (m * 1))[t]? = (l.map (Value.int .u8))[t]? := by rw [htake]
    rw [List.getElem?_take_of_lt (by omega), List.getElem?_map, List.getElem?_eq_getElem (show t < l.length by omega)] at h1
    rw [← Array.getElem?_toList, h1, List.getD_eq_getElem?_getD, List.getElem?_eq_getElem (show t < l.length by omega)]
    rfl
theorem or_set {W : World} {b g m c t : Nat} {e : TypeId} {l : List Int} {z : Int} (h : W.ownsRow b e 1 (.slice (some ⟨g, 0, none⟩) m c) m (l.map (Value.int .u8))) : (W.setCell ⟨g, t, none⟩ (.int .u8 z)).ownsRow b e 1 (.slice (some ⟨g, 0, none⟩) m c) m ((l.set t z).map (Value.int .u8)) ∨ m ≤ t := by
  by_cases ht : m ≤ t
  · exact .inr ht
  refine .inl ?_
  obtain ⟨q1, ⟨hv, _⟩ | ⟨g1, cap1, cur, hv, hbg, hg, hnc, hcm, hcs, htake⟩⟩ := h
  · cases hv
  · cases hv
    refine ⟨by rw [List.length_map, List.length_set]; rw [List.length_map] at q1; exact q1, .inr ⟨g, c, cur.setIfInBounds t (.int .u8 z), rfl, hbg, heap_setCell_same W g t cur _ (.int .u8 z) hg, hnc, hcm, by rw [Array.size_setIfInBounds]; exact hcs, ?_⟩⟩
    rw [Array.toList_setIfInBounds, List.take_set, htake, List.map_set]
theorem or_prefix {W : World} {b g m j c : Nat} {e : TypeId} {xs ys : List Value} (h : W.ownsRow b e 1 (.slice (some ⟨g, 0, none⟩) (m + j) c) (m + j) (xs ++ ys)) (hl : xs.length = m) : W.ownsRow b e 1 (.slice (some ⟨g, 0, none⟩) m c) m xs := by
  obtain ⟨q1, ⟨hv, _⟩ | ⟨g1, cap1, cur, hv, hbg, hg, hnc, hcm, hcs, htake⟩⟩ := h
  · cases hv
  · cases hv
    refine ⟨by omega, .inr ⟨g, c, cur, rfl, hbg, hg, by omega, hcm, hcs, ?_⟩⟩
    have h2 := congrArg (List.take m) htake
    rw [List.take_take, List.take_left' hl] at h2
    rw [← h2]
    congr 1
    omega
theorem or_move {W V : World} {b g m c : Nat} {e : TypeId} {xs : List Value} {ob : Option Nat} (h : W.ownsRow b e 1 (.slice (some ⟨g, 0, none⟩) m c) m xs) (hg : W.grownBy V ob) (hx : ob ≠ some g) : V.ownsRow b e 1 (.slice (some ⟨g, 0, none⟩) m c) m xs := by
  obtain ⟨q1, ⟨hv, _⟩ | ⟨g1, cap1, cur, hv, hbg, hr, hq⟩⟩ := h
  · cases hv
  · cases hv
    exact ⟨q1, .inr ⟨g, c, cur, rfl, hbg, (hg.block g (lt_of_row hr) (fun e => hx e.symm)).trans hr, hq⟩⟩
theorem or_high {W : World} {b g m c : Nat} {e : TypeId} {xs : List Value} (h : W.ownsRow b e 1 (.slice (some ⟨g, 0, none⟩) m c) m xs) : g < W.heap.size ∧ b ≤ g := by
  obtain ⟨q1, ⟨hv, _⟩ | ⟨g1, cap1, cur, hv, hbg, hr, hq⟩⟩ := h
  · cases hv
  · cases hv
    exact ⟨lt_of_row hr, hbg⟩
theorem or_other {W : World} {b g g' m c t : Nat} {e : TypeId} {xs : List Value} {v : Value} (h : W.ownsRow b e 1 (.slice (some ⟨g, 0, none⟩) m c) m xs) (hx : g ≠ g') : (W.setCell ⟨g', t, none⟩ v).ownsRow b e 1 (.slice (some ⟨g, 0, none⟩) m c) m xs := by
  obtain ⟨q1, ⟨hv, _⟩ | ⟨g1, cap1, cur, hv, hbg, hr, hq⟩⟩ := h
  · cases hv
  · cases hv
    exact ⟨q1, .inr ⟨g, c, cur, rfl, hbg, heap_other hr hx, hq⟩⟩
/-- A list that was handed out: a row with room behind it, or nil. -/
def apV (x : Option Nat × Nat × Nat) : Value := match x.1 with
  | some g => .slice (some ⟨g, 0, none⟩) x.2.1 x.2.2
  | none => .slice none 0 0
def apN (x : Option Nat × Nat × Nat) : Nat := match x.1 with
  | some _ => x.2.1
  | none => 0
def apC (x : Option Nat × Nat × Nat) : Nat := match x.1 with
  | some _ => x.2.2
  | none => 0
def apA (x : Option Nat × Nat × Nat) : Option Addr := x.1.map fun g => ⟨g, 0, none⟩
theorem apV_eq (x : Option Nat × Nat × Nat) : apV x = .slice (apA x) (apN x) (apC x) := by
  obtain ⟨_ | g, m, c⟩ := x <;> rfl
/-- The rows of such lists, with P of each. -/
def ApR (lo : Nat) (W : World) (xs : List (Option Nat × Nat × Nat)) (P : Nat → List Int → Prop) : Prop := ∀ (j g m c : Nat), xs[j]? = some (some g, m, c) → ∃ l : List Int, l.length = m ∧ W.ownsRow lo 5 1 (.slice (some ⟨g, 0, none⟩) m c) m (l.map (Value.int .u8)) ∧ P j l
def ApD (xs : List (Option Nat × Nat × Nat)) : Prop := ∀ (i j : Nat) (g m n c d : Nat), xs[i]? = some (some g, m, c) → xs[j]? = some (some g, n, d) → i = j
theorem ApR.mono {lo : Nat} {W : World} {xs : List (Option Nat × Nat × Nat)} {P Q : Nat → List Int → Prop} (h : ApR lo W xs P) (hq : ∀ (j : Nat) l g m c, xs[j]? = some (some g, m, c) → l.length = m → P j l → Q j l) : ApR lo W xs Q := fun j g m c hj => by
  obtain ⟨l, h1, h2, h3⟩ := h j g m c hj
  exact ⟨l, h1, h2, hq _ _ _ _ _ hj h1 h3⟩
theorem ApR.moved {lo : Nat} {W W' : World} {xs : List (Option Nat × Nat × Nat)} {P : Nat → List Int → Prop} {ob : Option Nat} (h : ApR lo W xs P) (hb : W.grownBy W' ob) (hx : ∀ (j g m c : Nat), xs[j]? = some (some g, m, c) → ob ≠ some g) : ApR lo W' xs P := fun j g m c hj => by
  obtain ⟨l, h1, h2, h3⟩ := h j g m c hj
  exact ⟨l, h1, or_move h2 hb (hx j g m c hj), h3⟩
theorem ApR.put {lo : Nat} {W : World} {xs : List (Option Nat × Nat × Nat)} {P Q : Nat → List Int → Prop} (h : ApR lo W xs P) (hd : ApD xs) {k g m c t : Nat} {z : Int} (hk : xs[k]? = some (some g, m, c)) (ht : t < m) (hp : ∀ l, l.length = m → P k l → Q k (l.set t z)) (hq : ∀ j l, j ≠ k → P j l → Q j l) : ApR lo (W.setCell ⟨g, t, none⟩ (.int .u8 z)) xs Q := fun j g' m' c' hj => by
  obtain ⟨l, h1, h2, h3⟩ := h j g' m' c' hj
  by_cases e : g' = g
  · subst e
    obtain rfl := hd _ _ _ _ _ _ _ hk hj
    obtain ⟨_, rfl, rfl⟩ : True ∧ m = m' ∧ c = c' := ⟨trivial, by rw [hk] at hj; cases hj; exact ⟨rfl, rfl⟩⟩
    refine ⟨l.set t z, by rw [List.length_set]; exact h1, (or_set h2).resolve_right (by omega), hp l h1 h3⟩
  · refine ⟨l, h1, or_other h2 e, hq j l (fun ej => e ?_) h3⟩
    subst ej
    rw [hk] at hj
    cases hj
    rfl
theorem getD_set_if6 (l : List Int) (t u : Nat) (z : Int) (h : t < l.length) : (l.set t z).getD u 0 = if u = t then z else l.getD u 0 := by
  rw [List.getD_eq_getElem?_getD, List.getD_eq_getElem?_getD, List.getElem?_set]
  by_cases e : t = u
  · subst e; simp [h]
  · rw [if_neg e, if_neg (Ne.symm e)]
theorem ap_some {x : Option Nat × Nat × Nat} {t : Nat} (h : t < apN x) : ∃ g m c, x = (some g, m, c) := by
  obtain ⟨_ | g, m, c⟩ := x
  · simp [apN] at h
  · exact ⟨g, m, c, rfl⟩
theorem ap_row {W : World} {gl : Nat} {xs : List (Option Nat × Nat × Nat)} (hg : W.heap[gl]? = some (.cells (xs.map apV).toArray 27 (0, 0))) (i : Nat) (hi : i < xs.length) : W.cell? ⟨gl, i, none⟩ = some (.slice (apA (xs.getD i (none, 0, 0))) (apN (xs.getD i (none, 0, 0))) (apC (xs.getD i (none, 0, 0)))) := by
  rw [cell_of hg (show (xs.map apV).toArray[i]? = some (apV (xs.getD i (none, 0, 0))) by rw [List.getElem?_toArray, List.getElem?_map, List.getElem?_eq_getElem hi, List.getD_eq_getElem?_getD, List.getElem?_eq_getElem hi]; rfl), apV_eq]
set_option maxRecDepth 100000 in
set_option maxHeartbeats 4000000 in
theorem s_apart (xs : List (Option Nat × Nat × Nat)) (gl lo : Nat) (w : World) (hloW : lo ≤ w.heap.size) (hn : xs.length ≤ 50) (hg : w.heap[gl]? = some (.cells (xs.map apV).toArray 27 (0, 0))) (hr : ApR lo w xs fun _ _ => True) (hd : ApD xs) (hlo : ∀ (i : Nat) g m c, xs[i]? = some (some g, m, c) → g ≠ gl ∧ m ≤ 140737488350000) : Calls Tryz.prog 12 #[.slice (some ⟨gl, 0, none⟩) xs.length xs.length] w fun e w' => e = .returned (.bool true) ∧ Below lo w w' := by
  have lgl := lt_of_row hg
  have hrow := fun (W : World) h => ap_row (W := W) (gl := gl) (xs := xs) h
  go_enter Tryz.func12, Tryz.ntmps12
  go_wp2
  go_loopw [3] (fun i wr => ∃ k : Nat, k ≤ xs.length ∧ i = .int .i64 k ∧ ApR lo wr xs (fun j l => j < k → ∀ t, t < l.length → l.getD t 0 = 1 + (j : Int)) ∧ wr.heap[gl]? = some (.cells (xs.map apV).toArray 27 (0, 0)) ∧ Below lo w wr) (fun i _ => xs.length - (intOf i).toNat)
  case atStart => exact ⟨0, by omega, rfl, hr.mono (fun j l _ _ _ _ _ _ h => by omega), hg, Below.refl _ _⟩
  case round =>
    clear hg hr
    obtain ⟨k, hk, rfl, hr, hg, hw⟩ := hrel
    by_cases hlt : k < xs.length
    · have hdk : decide ((k : Int) < (xs.length : Int)) = true := by simp; omega
      have hmod : (1 + (k : Int)) % 256 = 1 + (k : Int) := by omega
      obtain ⟨x, hxk⟩ : ∃ x, xs[k]? = some x := ⟨_, List.getElem?_eq_getElem hlt⟩
      have hrk := fun W h => hrow W h k hlt
      rw [show xs.getD k (none, 0, 0) = x by rw [List.getD_eq_getElem?_getD, hxk]; rfl] at hrk
      replace hrk := hide hrk
      replace hrow := hide hrow
      go_wp2
      go_loopw [4] (fun i wr => ∃ t : Nat, t ≤ apN x ∧ i = .int .i64 t ∧ ApR lo wr xs (fun j l => (j < k → ∀ t, t < l.length → l.getD t 0 = 1 + (j : Int)) ∧ (j = k → ∀ u, u < t → l.getD u 0 = 1 + (j : Int))) ∧ wr.heap[gl]? = some (.cells (xs.map apV).toArray 27 (0, 0)) ∧ Below lo w wr) (fun i _ => apN x - (intOf i).toNat)
      case atStart => exact ⟨0, by omega, rfl, hr.mono (fun j l _ _ _ _ _ h => ⟨h, fun _ u hu => by omega⟩), hg, hw⟩
      case round =>
        clear hr hg hw
        obtain ⟨t, ht, rfl, hr, hg, hw⟩ := hrel
        have hcl := hrk.out _ hg
        by_cases hlt2 : t < apN x
        · have hdt : decide ((t : Int) < (apN x : Int)) = true := by simp; omega
          obtain ⟨g, m, c, rfl⟩ := ap_some hlt2
          change wr.cell? ⟨gl, k, none⟩ = some (.slice (some ⟨g, 0, none⟩) m c) at hcl
          change t < m at hlt2
          change decide ((t : Int) < (m : Int)) = true at hdt
          obtain ⟨l, hl, rl, hP⟩ := hr k g m c hxk
          obtain ⟨hgg, hmm⟩ := hlo k g m c hxk
          have hlg := (or_high rl).2
          obtain ⟨c1, c2⟩ := or_cell rl hlt2
          have hr2 : ApR lo (wr.setCell ⟨g, t, none⟩ (.int .u8 (1 + (k : Int)))) xs (fun j l => (j < k → ∀ t, t < l.length → l.getD t 0 = 1 + (j : Int)) ∧ (j = k → ∀ u, u < t + 1 → l.getD u 0 = 1 + (j : Int))) := hr.put hd hxk hlt2 (fun l hl h => ⟨fun hkk => by omega, fun _ u hu => by
            rw [getD_set_if6 l t u _ (by omega)]
            split
            · rfl
            · exact h.2 rfl u (by omega)⟩) (fun j l hj h => ⟨h.1, fun e => absurd e hj⟩)
          have hg2 : (wr.setCell ⟨g, t, none⟩ (.int .u8 (1 + (k : Int)))).heap[gl]? = _ := heap_other hg (Ne.symm hgg)
          have hw2 := hw.setCell (show lo ≤ (⟨g, t, none⟩ : Addr).block from hlg) (.int .u8 (1 + (k : Int)))
          clear hr hg hw hP rl hl
          generalize l.getD t 0 = z at *
          go_wp2
          refine ⟨⟨t + 1, by show t + 1 ≤ m; omega, by go_num, hr2, hg2, hw2⟩, ?_⟩
          simp [intOf, apN]; omega
        · obtain rfl : t = apN x := by omega
          have hdt : decide ((apN x : Int) < (apN x : Int)) = false := by simp
          have hr2 : ApR lo wr xs (fun j l => j < k + 1 → ∀ t, t < l.length → l.getD t 0 = 1 + (j : Int)) := hr.mono (fun j l g m c hj hl h hjk t ht => by
            rcases Nat.lt_or_ge j k with q | q
            · exact h.1 q t ht
            · obtain rfl : j = k := by omega
              refine h.2 rfl t ?_
              rw [hxk] at hj
              cases hj
              show t < m
              omega)
          clear hr
          go_wp2
          refine ⟨⟨k + 1, by omega, by go_num, hr2, hg, hw⟩, ?_⟩
          simp [intOf]; omega
    · obtain rfl : k = xs.length := by omega
      have hdk : decide ((xs.length : Int) < (xs.length : Int)) = false := by simp
      replace hr : ApR lo wr xs (fun j l => ∀ t, t < l.length → l.getD t 0 = 1 + (j : Int)) := hr.mono (fun j l g m c hj hl h => h (List.getElem?_eq_some_iff.1 hj).1)
      replace hrow := hide hrow
      go_wp2
      go_loopw [5, 6] (fun i _ wr => ∃ k : Nat, k ≤ xs.length ∧ i = .int .i64 k ∧ ApR lo wr xs (fun j l => ∀ t, t < l.length → l.getD t 0 = 1 + (j : Int)) ∧ wr.heap[gl]? = some (.cells (xs.map apV).toArray 27 (0, 0)) ∧ Below lo w wr) (fun i _ _ => xs.length - (intOf i).toNat)
      case atStart => exact ⟨0, by omega, rfl, hr, hg, hw⟩
      case round =>
        clear hr hg hw hdk
        obtain ⟨k, hk, rfl, hr, hg, hw⟩ := hrel
        by_cases hlt2 : k < xs.length
        · have hdk : decide ((k : Int) < (xs.length : Int)) = true := by simp; omega
          have hmod : (201 + (k : Int)) % 256 = 201 + (k : Int) := by omega
          obtain ⟨x, hxk⟩ : ∃ x, xs[k]? = some x := ⟨_, List.getElem?_eq_getElem hlt2⟩
          have hcl := hrow.out _ hg k hlt2
          rw [show xs.getD k (none, 0, 0) = x by rw [List.getD_eq_getElem?_getD, hxk]; rfl] at hcl
          obtain ⟨i0, hi, hz0, hz1, hz2⟩ := info8
          have hmN : apN x ≤ 140737488350000 := by
            obtain ⟨_ | g, m, c⟩ := x
            · exact Nat.zero_le _
            · exact (hlo k g m c hxk).2
          have hlow : lo ≤ wr.heap.size := Nat.le_trans hloW hw.size
          have hgs : ∀ (j g m c : Nat), xs[j]? = some (some g, m, c) → g < wr.heap.size := fun j g m c hj => by
            obtain ⟨l, _, h, _⟩ := hr j g m c hj
            exact (or_high h).1
          have lgw := lt_of_row hg
          go_wp2
          generalize eB : wr.heap.size = B at *
          generalize wr = wo at *
          go_loopw [6, 7] (fun v i wr => ∃ j : Nat, j ≤ 80 ∧ i = .int .i64 j ∧ B ≤ wr.heap.size ∧ ApR lo wr xs (fun j l => ∀ t, t < l.length → l.getD t 0 = 1 + (j : Int)) ∧ wr.heap[gl]? = some (.cells (xs.map apV).toArray 27 (0, 0)) ∧ Below lo w wr ∧ ∃ v0, v = v0 ∧ ((∃ (g m c : Nat) (l : List Int) (ys : List Value), x = (some g, m, c) ∧ l.length = m ∧ (∀ t, t < l.length → l.getD t 0 = 1 + (k : Int)) ∧ v0 = .slice (some ⟨g, 0, none⟩) (m + j) c ∧ wr.ownsRow lo 5 1 (.slice (some ⟨g, 0, none⟩) (m + j) c) (m + j) (l.map (Value.int .u8) ++ ys)) ∨ (∃ ys : List Value, wr.ownsRow B 5 1 v0 (apN x + j) ys))) (fun _ i _ => 80 - (intOf i).toNat)
          case atStart =>
            refine ⟨0, by omega, rfl, by omega, hr, hg, hw, _, rfl, ?_⟩
            obtain ⟨_ | g, m, c⟩ := x
            · exact .inr ⟨[], rfl, .inl ⟨rfl, rfl⟩⟩
            · obtain ⟨l, hl, h, hm⟩ := hr k g m c hxk
              exact .inl ⟨g, m, c, l, [], rfl, hl, hm, rfl, by rw [List.append_nil]; exact h⟩
          case round =>
            clear hr hg hw hcl
            obtain ⟨j, hj, rfl, hBr, hr, hg, hw, v, hvv, hv⟩ := hrel
            by_cases hlt3 : j < 80
            · have hdj : decide ((j : Int) < 80) = true := by simp; omega
              have hga := World.grownBy_alloc wr (.cells #[.int .u8 (201 + (k : Int))] 5) none
              have hra := hr.moved hga (fun _ _ _ _ _ h => by cases h)
              have hwa : Below lo w (wr.alloc (.cells #[.int .u8 (201 + (k : Int))] 5)) := hw.alloc (by have := hw.size; omega) _
              have hgl2 : (wr.alloc (.cells #[.int .u8 (201 + (k : Int))] 5)).heap[gl]? = some (.cells (xs.map apV).toArray 27 (0, 0)) := (hga.block gl (by omega) (by simp)).trans hg
              have hza : (wr.alloc (.cells #[.int .u8 (201 + (k : Int))] 5)).heap.size = wr.heap.size + 1 := size_alloc1 _ _
              rcases hv with ⟨g, m, c, l, ys, rfl, hl, hm, rfl, hown⟩ | ⟨ys, hown⟩
              · subst hvv
                have hown_ := hown.alloc (.cells #[.int .u8 (201 + (k : Int))] 5)
                change m ≤ _ at hmN
                have hgB := hgs k g m c hxk
                have hgg := (hlo k g m c hxk).1
                go_wp2_with (at_builtin; refine wpList_append_cases _ rfl (.tmp 48) (.tmp 52) 27 rfl lo 5 i0 (.int .u8 0) Tryz.underlying27 hi hz0 hz1 hz2 rfl g (m + j) c _ rfl hown_ ⟨wr.heap.size, 0, none⟩ 1 1 [.int .u8 (201 + (k : Int))] rfl rfl (new_cell wr (201 + (k : Int))) (by simp [Value.oneCell']) (by unfold maxLen; omega) (by omega) (by omega) ?_ ?_)
                · intro w2 hown2 hgrow
                  have hs2 := hgrow.size
                  have hB2 : B ≤ w2.heap.size := by omega
                  have hr2 : ApR lo w2 xs (fun j l => ∀ t, t < l.length → l.getD t 0 = 1 + (j : Int)) := fun j' g' m' c' hj' => by
                    by_cases e : j' = k
                    · subst e
                      rw [hxk] at hj'
                      cases hj'
                      exact ⟨l, hl, or_prefix (j := j + 1) hown2 (by rw [List.length_map]; exact hl), hm⟩
                    · obtain ⟨l', h1, h2, h3⟩ := hra j' g' m' c' hj'
                      refine ⟨l', h1, or_move h2 hgrow (fun q => e ?_), h3⟩
                      injection q with q
                      subst q
                      exact hd _ _ _ _ _ _ _ hj' hxk
                  have hg3 : w2.heap[gl]? = _ := (hgrow.block gl (by omega) (by intro e; injection e with e; omega)).trans hgl2
                  have hw3 := hwa.grown hgrow (by omega) (fun q h => by injection h with h; have := (or_high hown_).2; omega)
                  clear hr hra hown hown_ hgrow hwa hw hg hgl2 hga hza
                  go_wp2
                  refine ⟨⟨j + 1, by omega, by go_num, hB2, hr2, hg3, hw3, _, rfl, .inl ⟨g, m, c, l, _, rfl, hl, hm, by rw [Nat.add_assoc], hown2⟩⟩, ?_⟩
                  simp [intOf]; omega
                · intro v' w2 hown2 hgrow
                  have hs2 := hgrow.size
                  have hB2 : B ≤ w2.heap.size := by omega
                  have hr2 := hra.moved hgrow (fun _ _ _ _ _ h => by cases h)
                  have hg3 : w2.heap[gl]? = _ := (hgrow.block gl (by omega) (by simp)).trans hgl2
                  have hw3 := hwa.grown hgrow (by omega) (fun q h => by cases h)
                  replace hown2 := or_lower hown2 (show B ≤ wr.heap.size + 1 by omega)
                  clear hr hra hown hown_ hgrow hwa hw hg hgl2 hga hza
                  obtain ⟨ao', cap', rfl⟩ := slen_own hown2
                  go_wp2
                  refine ⟨⟨j + 1, by omega, by go_num, hB2, hr2, hg3, hw3, _, rfl, .inr ⟨_, hown2⟩⟩, ?_⟩
                  simp [intOf]; omega
              · have hown_ := hown.alloc (.cells #[.int .u8 (201 + (k : Int))] 5)
                obtain ⟨ao0, cap0, rfl⟩ := slen_own hown
                subst hvv
                generalize apN x = m at *
                go_wp2_with (at_builtin; refine wpList_append_own _ rfl (.tmp 48) (.tmp 52) 27 rfl B 5 i0 (.int .u8 0) 1 1 Tryz.underlying27 hi hz0 hz1 hz2 rfl (by decide) _ (m + j) ys rfl hown_ ⟨wr.heap.size, 0, none⟩ 1 1 [.int .u8 (201 + (k : Int))] rfl rfl (new_cell wr (201 + (k : Int))) (by simp [Value.oneCell']) (by unfold maxLen; omega) (by omega) (by omega) ?_)
                intro v' w2 hown2 hgrow _
                have hs2 := hgrow.size
                have hB2 : B ≤ w2.heap.size := by omega
                have hob : ∀ q, (Value.slice ao0 (m + j) cap0).ownBlock = some q → B ≤ q := fun q h => (hown_.lt q h).1
                have hr2 := hra.moved hgrow (fun j' g' m' c' hj' h => by
                  have h1 := hob _ h
                  have h2 := hgs j' g' m' c' hj'
                  omega)
                have hg3 : w2.heap[gl]? = _ := (hgrow.block gl (by omega) (fun e => by have := hob _ e.symm; omega)).trans hgl2
                have hw3 := hwa.grown hgrow (by omega) (fun q h => by have := hob q h; omega)
                clear hr hra hown hown_ hgrow hwa hw hg hgl2 hga hza hob
                obtain ⟨ao', cap', rfl⟩ := slen_own hown2
                go_wp2
                refine ⟨⟨j + 1, by omega, by go_num, hB2, hr2, hg3, hw3, _, rfl, .inr ⟨_, hown2⟩⟩, ?_⟩
                simp [intOf]; omega
            · obtain rfl : j = 80 := by omega
              have hdj : decide ((80 : Int) < 80) = false := by decide
              have hvl : ∃ ao0 cap0, v = .slice ao0 (apN x + 80) cap0 := by
                rcases hv with ⟨g, m, c, l, ys, rfl, hl, hm, rfl, hown⟩ | ⟨ys, hown⟩
                · exact ⟨_, _, rfl⟩
                · exact slen_own hown
              obtain ⟨ao0, cap0, rfl⟩ := hvl
              subst hvv
              have hcl := hrow.out _ hg k hlt2
              rw [show xs.getD k (none, 0, 0) = x by rw [List.getD_eq_getElem?_getD, hxk]; rfl] at hcl
              clear hv
              go_wp2
              refine ⟨⟨k + 1, by omega, by go_num, hr, hg, hw⟩, ?_⟩
              simp [intOf]; omega
        · obtain rfl : k = xs.length := by omega
          have hdk : decide ((xs.length : Int) < (xs.length : Int)) = false := by simp
          go_wp2
          go_loopw [8] (fun i wr => ∃ k : Nat, k ≤ xs.length ∧ i = .int .i64 k ∧ ApR lo wr xs (fun j l => ∀ t, t < l.length → l.getD t 0 = 1 + (j : Int)) ∧ wr.heap[gl]? = some (.cells (xs.map apV).toArray 27 (0, 0)) ∧ Below lo w wr) (fun i _ => xs.length - (intOf i).toNat)
          case atStart => exact ⟨0, by omega, rfl, hr, hg, hw⟩
          case round =>
            clear hr hg hw hdk
            obtain ⟨k, hk, rfl, hr, hg, hw⟩ := hrel
            by_cases hlt3 : k < xs.length
            · have hdk : decide ((k : Int) < (xs.length : Int)) = true := by simp; omega
              have hmod : (1 + (k : Int)) % 256 = 1 + (k : Int) := by omega
              obtain ⟨x, hxk⟩ : ∃ x, xs[k]? = some x := ⟨_, List.getElem?_eq_getElem hlt3⟩
              have hrk := fun W h => hrow.out W h k hlt3
              rw [show xs.getD k (none, 0, 0) = x by rw [List.getD_eq_getElem?_getD, hxk]; rfl] at hrk
              replace hrk := hide hrk
              go_wp2
              go_loopw [9] (fun i wr => ∃ t : Nat, t ≤ apN x ∧ i = .int .i64 t ∧ ApR lo wr xs (fun j l => ∀ t, t < l.length → l.getD t 0 = 1 + (j : Int)) ∧ wr.heap[gl]? = some (.cells (xs.map apV).toArray 27 (0, 0)) ∧ Below lo w wr) (fun i _ => apN x - (intOf i).toNat)
              case atStart => exact ⟨0, by omega, rfl, hr, hg, hw⟩
              case round =>
                clear hr hg hw
                obtain ⟨t, ht, rfl, hr, hg, hw⟩ := hrel
                have hcl := hrk.out _ hg
                by_cases hlt4 : t < apN x
                · have hdt : decide ((t : Int) < (apN x : Int)) = true := by simp; omega
                  obtain ⟨g, m, c, rfl⟩ := ap_some hlt4
                  change wr.cell? ⟨gl, k, none⟩ = some (.slice (some ⟨g, 0, none⟩) m c) at hcl
                  change t < m at hlt4
                  change decide ((t : Int) < (m : Int)) = true at hdt
                  obtain ⟨l, hl, rl, hP⟩ := hr k g m c hxk
                  have hmm := (hlo k g m c hxk).2
                  obtain ⟨c1, _⟩ := or_cell rl hlt4
                  rw [hP t (by omega)] at c1
                  clear hP rl
                  go_wp2
                  refine ⟨⟨t + 1, by show t + 1 ≤ m; omega, by go_num, hr, hg, hw⟩, ?_⟩
                  simp [intOf, apN]; omega
                · obtain rfl : t = apN x := by omega
                  have hdt : decide ((apN x : Int) < (apN x : Int)) = false := by simp
                  go_wp2
                  refine ⟨⟨k + 1, by omega, by go_num, hr, hg, hw⟩, ?_⟩
                  simp [intOf]; omega
            · obtain rfl : k = xs.length := by omega
              have hdk : decide ((xs.length : Int) < (xs.length : Int)) = false := by simp
              go_wp2
              go_ret
              exact ⟨rfl, hw⟩
theorem ownI_ap {W : World} {b : Nat} {v : Value} {l : List Int} (h : OwnI W b v l) : ∃ y : Option Nat × Nat × Nat, apV y = v ∧ ∀ g m c, y = (some g, m, c) → m = l.length ∧ v.ownBlock = some g ∧ W.ownsRow b 5 1 (.slice (some ⟨g, 0, none⟩) m c) m (l.map (Value.int .u8)) := by
  obtain ⟨h1, ⟨rfl, h0⟩ | ⟨g, cap, cur, rfl, h3⟩⟩ := h
  · exact ⟨(none, 0, 0), rfl, fun g m c e => by cases e⟩
  · refine ⟨(some g, l.length, cap), rfl, fun g' m c e => ?_⟩
    cases e
    exact ⟨rfl, rfl, h1, .inr ⟨g, cap, cur, rfl, h3⟩⟩
/-- apart of two lists of their own. -/
theorem l_apart2 (v u : Value) (l m : List Int) (lo gl : Nat) (w : World) (hv : OwnI w lo v l) (hu : OwnI w lo u m) (hvu : ∀ k, v.ownBlock = some k → u.ownBlock ≠ some k) (hvg : ∀ k, v.ownBlock = some k → k ≠ gl) (hug : ∀ k, u.ownBlock = some k → k ≠ gl) (hl : l.length ≤ 4194304) (hm : m.length ≤ 4194304) (hlo : lo ≤ w.heap.size) (hg : w.heap[gl]? = some (.cells #[v, u] 27 (0, 0))) : Calls Tryz.prog 12 #[.slice (some ⟨gl, 0, none⟩) 2 2] w fun e w' => e = .returned (.bool true) ∧ Below lo w w' := by
  obtain ⟨y, rfl, hy⟩ := ownI_ap hv
  obtain ⟨x, rfl, hx⟩ := ownI_ap hu
  refine s_apart [y, x] gl lo w hlo (by simp) hg ?_ ?_ ?_
  · intro j g m' c hj
    match j with
    | 0 =>
      have e : y = (some g, m', c) := by simpa using hj
      obtain ⟨q1, q2, q3⟩ := hy g m' c e
      exact ⟨l, q1.symm, q3, trivial⟩
    | 1 =>
      have e : x = (some g, m', c) := by simpa using hj
      obtain ⟨q1, q2, q3⟩ := hx g m' c e
      exact ⟨m, q1.symm, q3, trivial⟩
    | j + 2 => simp at hj
  · intro i j g m' n c d hi hj
    match i, j with
    | 0, 0 => rfl
    | 1, 1 => rfl
    | 0, 1 =>
      have e : y = (some g, m', c) := by simpa using hi
      have e' : x = (some g, n, d) := by simpa using hj
      exact absurd (hx g n d e').2.1 (hvu g (hy g m' c e).2.1)
    | 1, 0 =>
      have e : x = (some g, m', c) := by simpa using hi
      have e' : y = (some g, n, d) := by simpa using hj
      exact absurd (hx g m' c e).2.1 (hvu g (hy g n d e').2.1)
    | 0, j + 2 => simp at hj
    | 1, j + 2 => simp at hj
    | i + 2, j => simp at hi
  · intro i g m' c hi
    match i with
    | 0 =>
      have e : y = (some g, m', c) := by simpa using hi
      exact ⟨hvg g (hy g m' c e).2.1, by have := (hy g m' c e).1; omega⟩
    | 1 =>
      have e : x = (some g, m', c) := by simpa using hi
      exact ⟨hug g (hx g m' c e).2.1, by have := (hx g m' c e).1; omega⟩
    | i + 2 => simp at hi
theorem Own.ownI {W : World} {b : Nat} {v : Value} {d : List B} (h : Own W b v d) : OwnI W b v (bl d) := by
  unfold OwnI
  rw [bl_len]
  exact h
theorem info_hrw (pub : List B) (hp : pub.length = 32) (prev m : Nat) : (Tryz.prog.info? 26).map (·.size) = some (hrw pub prev m).size := by
  rw [show (Tryz.prog.info? 26).map (·.size) = some 34 by kernel_rfl]
  have : (irow .u8 (bl pub)).size = 32 := by simp [irow, bl, hp]
  unfold hrw
  rw [Array.size_append, this]
  rfl
set_option maxRecDepth 100000 in
set_option maxHeartbeats 8000000 in
theorem headers_any (pub : List B) (hp : pub.length = 32) (prev m : Nat) (h1 : prev < 4294967296) (h2 : m < 4294967296) (w : World) : Calls Tryz.prog 3 #[.agg (hrw pub prev m)] w fun e w' => e = .returned (.bool true) ∧ Below w.heap.size w w' := by
  have RB := hp1_0 w (.cells (hrw pub prev m) 26)
  have hw : Below w.heap.size w (w.alloc (.cells (hrw pub prev m) 26)) := (Below.refl _ _).alloc (Nat.le_refl _) _
  have hi9 := info_hrw pub hp prev m
  have cA := fun W => a_PackHeader pub hp prev m h1 h2 W
  simp only [hfd_at] at cA
  have cR := fun W => r_PackHeader pub hp prev m h1 h2 W
  have hlm := eout_lim (hfd pub prev m)
  generalize eout (hfd pub prev m) = L at *
  generalize (hrw pub prev m) = BB at *
  replace cA := hide cA
  replace cR := hide cR
  go_enter Tryz.func3, Tryz.ntmps3
  go_upto_region 1 with (first | (refine wpList_box rfl 26 _ rfl _ rfl (bHdr _) ?_) | fail)
  try simp only [Act.put, List.setIfInBounds_toArray, List.set_cons_succ, List.set_cons_zero]
  generalize w.alloc (.cells BB 26) = w0 at *
  go_wp2_with (first | (refine wpList_load_want rfl 26 _ rfl w.heap.size rfl 26 BB (0, 0) _ RB Tryz.underlying26 rfl hi9 ?_) | fail)
  refine (cA.out w0).mono ?_
  rintro e_ w1 ⟨u0, rfl, O0, hb⟩
  have lt0 := fun k e => (own_lt O0 k e).2
  replace O0 := own_down O0 hw.size
  replace RB := keep hb RB
  replace hw := Below.after hw hb
  clear hb
  obtain ⟨x0, y0, rfl⟩ := slen_own O0
  go_wp2_with (first | (refine wpList_load_want rfl 26 _ rfl w.heap.size rfl 26 BB (0, 0) _ RB Tryz.underlying26 rfl hi9 ?_) | fail)
  refine (cA.out w1).mono ?_
  rintro e_ w2 ⟨u1, rfl, O1, hb⟩
  have ge1 := own_low O1
  have lt1 := fun k e => (own_lt O1 k e).2
  have sz2 := hb.size
  replace O1 := own_down O1 hw.size
  replace O0 := O0.keep hb
  replace RB := keep hb RB
  replace hw := Below.after hw hb
  clear hb
  obtain ⟨x1, y1, rfl⟩ := slen_own O1
  go_wp2_with (first | (refine wpList_load_want rfl 26 _ rfl w.heap.size rfl 26 BB (0, 0) _ RB Tryz.underlying26 rfl hi9 ?_) | fail)
  refine (cR.out w2).mono ?_
  rintro e_ w3 ⟨u2, rfl, O2, hb⟩
  have sz3 := hb.size
  replace O2 := own_down O2 hw.size
  replace O0 := O0.keep hb
  replace O1 := O1.keep hb
  replace hw := Below.after hw hb
  clear hb cA cR RB
  obtain ⟨x2, y2, rfl⟩ := slen_own O2
  have cS := l_same (bl L) (bl L) w3 _ _ O0.bys O2.bys
  simp only [decide_true] at cS
  go_wp2_with (fail)
  refine cS.mono ?_
  rintro e_ w4 ⟨rfl, hb⟩
  have sz4 := hb.size
  replace O0 := O0.keep hb
  replace O1 := O1.keep hb
  replace O2 := O2.keep hb
  replace hw := Below.after hw hb
  clear hb cS
  have cT := l_same (bl L) (bl L) w4 _ _ O1.bys O2.bys
  simp only [decide_true] at cT
  go_wp2_with (fail)
  refine cT.mono ?_
  rintro e_ w5 ⟨rfl, hb⟩
  have sz5 := hb.size
  replace O0 := O0.keep hb
  replace O1 := O1.keep hb
  replace hw := Below.after hw hb
  clear hb cT O2
  have rP := hp1_0 w5 (.cells #[.slice x0 L.length y0, .slice x1 L.length y1] 27)
  have hb_ : Below w5.heap.size w5 (w5.alloc (.cells #[.slice x0 L.length y0, .slice x1 L.length y1] 27)) := (Below.refl _ _).alloc (Nat.le_refl _) _
  have szA := hb_.size
  have sz0 := hw.size
  replace O0 := O0.keep hb_
  replace O1 := O1.keep hb_
  have cA2 := l_apart2 (.slice x0 L.length y0) (.slice x1 L.length y1) (bl L) (bl L) w.heap.size w5.heap.size _ O0.ownI O1.ownI (fun k e f => by have := lt0 k e; have := ge1 k f; omega) (fun k e => by have := lt0 k e; omega) (fun k e => by have := lt1 k e; omega) (by rw [bl_len]; omega) (by rw [bl_len]; omega) (by omega) rP
  replace hw := hw.trans (hb_.mono sz0)
  clear hb_ O0 O1 lt0 lt1 ge1
  replace cA2 := hide cA2
  replace hw := hide hw
  go_wp2_with (fail)
  refine cA2.out.mono ?_
  rintro e_ wZ ⟨rfl, hb⟩
  have hwF := hide (hw.out.trans hb)
  clear hb
  go_wp2_with (fail)
  go_ret
  exact ⟨rfl, hwF.out⟩
theorem u32_of_wfH {x : Int} (h : (Lit.int .u32 x).wf = true) : 0 ≤ x ∧ x ≤ 4294967295 := by
  exact bounds_u32 h
theorem cHdA : Tryz.prog.cellsOf 26 = 34 := by kernel_rfl
theorem cU32A : Tryz.prog.cellsOf 24 = 1 := by kernel_rfl
/-- A header's row, over integers. -/
def hdrow (p : List Int) (a b : Int) : Array Value := (k8 p ++ [Value.int .u32 a, Value.int .u32 b]).toArray
theorem hd_of_trod {H : Type} {enc : TypeId × Value → H} {W : World} {m : Nat} {cs : List Value} {x : DataW H × List MemPlace} (hf : DataW.trod enc Tryz.prog W 0 (fun _ => true) true m 26 cs = some x) : ∃ (p : List Int) (a b : Int), K8 p ∧ (0 ≤ a ∧ a ≤ 4294967295) ∧ (0 ≤ b ∧ b ≤ 4294967295) ∧ cs = (hdrow p a b).toList := by
  obtain ⟨xs, n, _, rfl, hl, hlen, hfld⟩ := DataW.trod_struct Tryz.underlying26 hf
  rw [cHdA] at hl
  match xs, hlen with
  | [y0, y1, y2], _ =>
  have f0 : DataW.trod enc Tryz.prog W 0 (fun _ => true) true n 23 ((cs.drop 0).take (Tryz.prog.cellsOf 23)) = some y0 := hfld 0 _ rfl
  rw [cKeyA] at f0
  have f1 : DataW.trod enc Tryz.prog W 0 (fun _ => true) true n 24 ((cs.drop 32).take (Tryz.prog.cellsOf 24)) = some y1 := hfld 1 _ rfl
  rw [cU32A] at f1
  have f2 : DataW.trod enc Tryz.prog W 0 (fun _ => true) true n 24 ((cs.drop 33).take (Tryz.prog.cellsOf 24)) = some y2 := hfld 2 _ rfl
  rw [cU32A] at f2
  obtain ⟨p, k_p, e0⟩ := cells_k8 f0
  obtain ⟨a, e1, _, wa⟩ := DataW.trod_int Tryz.underlying24 f1
  obtain ⟨b, e2, _, wb⟩ := DataW.trod_int Tryz.underlying24 f2
  refine ⟨p, a, b, k_p, u32_of_wfH wa, u32_of_wfH wb, ?_⟩
  have z : cs.drop 34 = [] := List.drop_eq_nil_of_le (by omega)
  have a2 := glue e2 z
  have a1 := glue e1 a2
  have a0 := glue e0 a1
  rw [List.drop_zero] at a0
  rw [a0]
  simp [hdrow]
theorem headers_int (p : List Int) (a b : Int) (hp : K8 p) (ha : 0 ≤ a ∧ a ≤ 4294967295) (hb : 0 ≤ b ∧ b ≤ 4294967295) (w : World) : Calls Tryz.prog 3 #[.agg (hdrow p a b)] w fun e w' => e = .returned (.bool true) ∧ Below w.heap.size w w' := by
  obtain ⟨p', rfl, lp⟩ := to_bl p hp.2
  obtain ⟨n, rfl⟩ := Int.eq_ofNat_of_zero_le ha.1
  obtain ⟨m, rfl⟩ := Int.eq_ofNat_of_zero_le hb.1
  have e : hdrow (bl p') (n : Int) (m : Int) = hrw p' n m := by simp [hdrow, hrw, irow, k8]
  rw [e]
  exact headers_any p' (lp.trans hp.1) n m (by omega) (by omega) w
end Go.Proofs.YtbaefbfejmpliaaGreatDoor
