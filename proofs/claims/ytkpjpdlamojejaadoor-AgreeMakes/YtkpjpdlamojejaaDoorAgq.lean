import Derived.Test.YtkpjpdlamojejaaDoorProg
import Derived.WalkKit
import Derived.WalkSpells
import Derived.WalkLawsBesides
import Derived.Lib.QuietBelow
import Derived.BigQuiet
import Derived.OrdersHeld
import Derived.Deep.RegionHeld3
import Derived.OwnWalk
import Derived.Laws.MakeOwn
import Derived.Deep.Cut
import Derived.Test.YtkpjpdlamojejaaDoorKa
import Derived.Test.YtkpjpdlamojejaaDoorAgp
namespace Go.Proofs.YtkpjpdlamojejaaDoor
set_option maxRecDepth 100000
open Go Go.RowKit Go.Sort
attribute [local go_sem] setCell_drewN alloc_drewN

theorem conv_bys {W : World} {v : Value} {bs : List Int} (h : Bys W v bs) : (convert 28 9 v).run Tryd.prog W = .ok (.string (strOfNums bs)) W := by
  obtain ⟨ao, cap, rfl, _, hc, _⟩ := h
  cases ao with
  | none =>
    have : bs = [] := by
      cases bs with
      | nil => rfl
      | cons x xs => obtain ⟨b, off, e, _⟩ := hc 0 (by simp); cases e
    subst this
    exact run_convert_bytes_nil W 28 5 Tryd.underlying28 Tryd.underlying5 _ _ 9 Tryd.underlying9
  | some ad =>
    rcases Nat.eq_zero_or_pos bs.length with e0 | e0
    · have : bs = [] := List.eq_nil_of_length_eq_zero e0
      subst this
      obtain ⟨b, off, sp⟩ := ad
      rw [run_convert_bytes_string W 28 9 5 _ _ _ Tryd.underlying28 Tryd.underlying5 Tryd.underlying9]
      have := run_bytesToString (P := Tryd.prog) W ⟨b, off, sp⟩ 0 cap [] (by rfl)
      exact this
    · obtain ⟨b, off, e, _⟩ := hc 0 e0
      cases e
      exact run_convert_bytes_arg W 28 5 Tryd.underlying28 Tryd.underlying5 b off bs.length cap bs rfl (fun i hi => by
        obtain ⟨b', off', e, _, h⟩ := hc i hi
        cases e
        exact h) 9 Tryd.underlying9
theorem str_inj {a b : List Int} (ha : ∀ z ∈ a, 0 ≤ z ∧ z < 256) (hb : ∀ z ∈ b, 0 ≤ z ∧ z < 256) (h : strOfNums a = strOfNums b) : a = b := by
  have h1 := congrArg (fun x => x.data.toList) h
  simp only [strOfNums_data] at h1
  have key : ∀ (a b : List Int), (∀ z ∈ a, 0 ≤ z ∧ z < 256) → (∀ z ∈ b, 0 ≤ z ∧ z < 256) → a.map (fun n => UInt8.ofNat n.toNat) = b.map (fun n => UInt8.ofNat n.toNat) → a = b := by
    intro a
    induction a with
    | nil => intro b _ _ h; cases b with
      | nil => rfl
      | cons y ys => simp at h
    | cons x xs ih => intro b ha hb h; cases b with
      | nil => simp at h
      | cons y ys =>
        simp only [List.map_cons, List.cons.injEq] at h
        have hx := ha x (by simp)
        have hy := hb y (by simp)
        have e := congrArg UInt8.toNat h.1
        simp only [UInt8.toNat_ofNat'] at e
        rw [Nat.mod_eq_of_lt (by omega), Nat.mod_eq_of_lt (by omega)] at e
        have exy : x = y := by omega
        rw [exy, ih ys (fun z h => ha z (by simp [h])) (fun z h => hb z (by simp [h])) h.2]
  exact key a b ha hb h1
theorem str_dec {a b : List Int} (ha : ∀ z ∈ a, 0 ≤ z ∧ z < 256) (hb : ∀ z ∈ b, 0 ≤ z ∧ z < 256) : ((strOfNums a).toList == (strOfNums b).toList) = decide (a = b) := by
  by_cases h : a = b
  · subst h; simp
  · rw [decide_eq_false h, beq_eq_false_iff_ne]
    intro e
    rw [ByteArray.toList_eq, ByteArray.toList_eq] at e
    exact h (str_inj ha hb (Go.WideShapes.bytes_inj e))
set_option maxRecDepth 100000 in
set_option maxHeartbeats 4000000 in
theorem l_same (a b : List Int) (w : World) (u v : Value) (hu : Bys w u a) (hv : Bys w v b) : Calls Tryd.prog 9 #[u, v] w fun e w' => e = .returned (.bool (decide (a = b))) ∧ Below w.heap.size w w' := by
  have c1 := conv_bys hu
  have c2 := conv_bys hv
  obtain ⟨ao, cap, rfl, _, _, hza⟩ := hu
  obtain ⟨bo, bcap, rfl, _, _, hzb⟩ := hv
  go_enter Tryd.func9, Tryd.ntmps9
  have hd := str_dec hza hzb
  go_wp2
  go_ret
  exact ⟨rfl, Below.refl _ _⟩
/-- An append to a list of one's own: in place, or a new block and no other turns. -/
theorem wpList_append_cases {P : Program} (w : World) {ops : Array Oper} {rest : List Oper} {o : Oper} {a : Act} {Q : Exit → Act → World → Prop} (hgd : o.guard = none) (s x : Operand) (t : TypeId)
    (ho : o.op = .call { callee := .builtin .append, args := #[s, x], argTypes := #[t, t] })
    (base : Nat) (e : TypeId) (i : TypeInfo) (z : Value) (ht : P.underlying t = some (.slice e)) (hi : P.info? e = some i) (hz : i.zero = some z)
    (hsize : i.size = 1) (hby : i.bytes = 1) (hzs : z.cells.size = 1)
    (g n cap : Nat) (xs : List Value) (hs : a.eval s = .slice (some ⟨g, 0, none⟩) n cap) (hown : w.ownsRow base e 1 (.slice (some ⟨g, 0, none⟩) n cap) n xs)
    (ad : Addr) (m c : Nat) (news : List Value) (hx : a.eval x = .slice (some ad) m c) (hl : news.length = m * 1) (hnews : ∀ j u, news[j]? = some u → w.cell? (ad.add j) = some u) (h1 : ∀ u ∈ news, u.oneCell' = true)
    (h63 : n + m ≤ maxLen) (hbytes : (n + m) * 1 ≤ 140737488355328) (hbase : base ≤ w.heap.size)
    (hA : ∀ w', w'.ownsRow base e 1 (.slice (some ⟨g, 0, none⟩) (n + m) cap) (n + m) (xs ++ news) → w.grownBy w' (some g) → wpList P ops Q rest (a.put o.dst (.slice (some ⟨g, 0, none⟩) (n + m) cap)) w')
    (hB : ∀ v' w', w'.ownsRow w.heap.size e 1 v' (n + m) (xs ++ news) → w.grownBy w' none → wpList P ops Q rest (a.put o.dst v') w') : wpList P ops Q (o :: rest) a w := by
  refine wpList_plain hgd fun K hK => ?_
  obtain ⟨v', w', hr, h2, h3, _⟩ := run_append_own (P := P) w base t o.type e i z 1 1 ht hi hz hsize hby hzs (by decide) _ n xs hown ad m c news hl hnews h1 h63 hbytes hbase
  have holds : ∀ j u, xs[j]? = some u → w.cell? ((⟨g, 0, none⟩ : Addr).add j) = some u := hown.cells (g := g) rfl
  rcases hown.2 with ⟨hv, _⟩ | ⟨g1, cap1, cur, hv, hbg, hg, hnc, hcm, hcs, htake⟩
  · cases hv
  · cases hv
    by_cases hroom : n + m ≤ cap
    · have hr2 := run_append_room (P := P) w t o.type e i ht hi g n cap cur hg ad m c news (by rw [hsize]; exact hl) hnews h1 hroom (by rw [hsize, hl, hcs]; omega)
      have hh := hr.symm.trans hr2
      injection hh with e1 e2
      subst e1
      unfold Oper.wp execOp
      simp only [ho, resolve, invoke, builtin, Sem.run_bind, Sem.run_pure, Result.andThen_ok, List.map_toArray, List.map_cons, List.map_nil, hs, hx, hr]
      exact hK _ _ (hA w' h2 h3)
    · have hr2 := run_append_grow (P := P) w t o.type e i z ht hi hz ⟨g, 0, none⟩ n cap xs (by rw [hsize]; exact hown.1) holds ad m c news (by rw [hsize]; exact hl) hnews (by omega) (by simp only [maxLen] at h63; omega) (growslice_fits (by omega) (by rw [hby]; exact hbytes))
      have hh := hr.symm.trans hr2
      injection hh with e1 e2
      have hown2 : w'.ownsRow w.heap.size e 1 v' (n + m) (xs ++ news) := by
        obtain ⟨q1, ⟨hv, _⟩ | ⟨g1, cap1, cur, hv, hbg, hq⟩⟩ := h2
        · rw [e1] at hv; cases hv
        · have hv' := e1.symm.trans hv
          cases hv'
          exact ⟨q1, .inr ⟨w.heap.size, _, cur, hv, Nat.le_refl _, hq⟩⟩
      have hgr : w.grownBy w' none := by
        rw [e2]
        have hq := World.grownBy_alloc w.drew (.cells (xs.toArray ++ news.toArray ++ Builtin.zeroCells z.cells (grownCap w (n + m) cap e - (n + m))) e) none
        exact ⟨hq.os, hq.tape, hq.output, hq.size, hq.block⟩
      unfold Oper.wp execOp
      simp only [ho, resolve, invoke, builtin, Sem.run_bind, Sem.run_pure, Result.andThen_ok, List.map_toArray, List.map_cons, List.map_nil, hs, hx, hr]
      exact hK _ _ (hB v' w' hown2 hgr)
theorem or_lower {W : World} {b c n : Nat} {e : TypeId} {v : Value} {ys : List Value} (h : W.ownsRow b e 1 v n ys) (hc : c ≤ b) : W.ownsRow c e 1 v n ys := by
  obtain ⟨q1, q2 | ⟨g1, cap1, cur, hv, hbg, hq⟩⟩ := h
  · exact ⟨q1, .inl q2⟩
  · exact ⟨q1, .inr ⟨g1, cap1, cur, hv, Nat.le_trans hc hbg, hq⟩⟩
theorem or_cell {W : World} {b g m c t : Nat} {e : TypeId} {l : List Int} (h : W.ownsRow b e 1 (.slice (some ⟨g, 0, none⟩) m c) m (l.map (Value.int .u8))) (ht : t < m) : W.cell? ⟨g, t, none⟩ = some (.int .u8 (l.getD t 0)) ∧ W.frozen? ⟨g, t, none⟩ = false := by
  obtain ⟨q1, ⟨hv, _⟩ | ⟨g1, cap1, cur, hv, hbg, hg, hnc, hcm, hcs, htake⟩⟩ := h
  · cases hv
  · cases hv
    rw [List.length_map] at q1
    refine ⟨?_, row_frozen hg t⟩
    rw [cell_of_row _ _ _ _ _ _ hg]
    have h1 : (cur.toList.take (m * 1))[t]? = (l.map (Value.int .u8))[t]? := by rw [htake]
    rw [List.getElem?_take_of_lt (by omega), List.getElem?_map, List.getElem?_eq_getElem (show t < l.length by omega)] at h1
    rw [← Array.getElem?_toList, h1, List.getD_eq_getElem?_getD, List.getElem?_eq_getElem (show t < l.length by omega)]
    rfl
theorem or_set {W : World} {b g m c t : Nat} {e : TypeId} {l : List Int} {z : Int} (h : W.ownsRow b e 1 (.slice (some ⟨g, 0, none⟩) m c) m (l.map (Value.int .u8))) : (W.setCell ⟨g, t, none⟩ (.int .u8 z)).ownsRow b e 1 (.slice (some ⟨g, 0, none⟩) m c) m ((l.set t z).map (Value.int .u8)) ∨ m ≤ t := by
  by_cases ht : m ≤ t
  · exact .inr ht
  refine .inl ?_
  obtain ⟨q1, ⟨hv, _⟩ | ⟨g1, cap1, cur, hv, hbg, hg, hnc, hcm, hcs, htake⟩⟩ := h
  · cases hv
  · cases hv
    refine ⟨by rw [List.length_map, List.length_set]; rw [List.length_map] at q1; exact q1, .inr ⟨g, c, cur.setIfInBounds t (.int .u8 z), rfl, hbg, heap_setCell_same W g t cur _ (.int .u8 z) hg, hnc, hcm, by rw [Array.size_setIfInBounds]; exact hcs, ?_⟩⟩
    rw [Array.toList_setIfInBounds, List.take_set, htake, List.map_set]
theorem or_prefix {W : World} {b g m j c : Nat} {e : TypeId} {xs ys : List Value} (h : W.ownsRow b e 1 (.slice (some ⟨g, 0, none⟩) (m + j) c) (m + j) (xs ++ ys)) (hl : xs.length = m) : W.ownsRow b e 1 (.slice (some ⟨g, 0, none⟩) m c) m xs := by
  obtain ⟨q1, ⟨hv, _⟩ | ⟨g1, cap1, cur, hv, hbg, hg, hnc, hcm, hcs, htake⟩⟩ := h
  · cases hv
  · cases hv
    refine ⟨by omega, .inr ⟨g, c, cur, rfl, hbg, hg, by omega, hcm, hcs, ?_⟩⟩
    have h2 := congrArg (List.take m) htake
    rw [List.take_take, List.take_left' hl] at h2
    rw [← h2]
    congr 1
    omega
theorem or_move {W V : World} {b g m c : Nat} {e : TypeId} {xs : List Value} {ob : Option Nat} (h : W.ownsRow b e 1 (.slice (some ⟨g, 0, none⟩) m c) m xs) (hg : W.grownBy V ob) (hx : ob ≠ some g) : V.ownsRow b e 1 (.slice (some ⟨g, 0, none⟩) m c) m xs := by
  obtain ⟨q1, ⟨hv, _⟩ | ⟨g1, cap1, cur, hv, hbg, hr, hq⟩⟩ := h
  · cases hv
  · cases hv
    exact ⟨q1, .inr ⟨g, c, cur, rfl, hbg, (hg.block g (lt_of_row hr) (fun e => hx e.symm)).trans hr, hq⟩⟩
theorem or_high {W : World} {b g m c : Nat} {e : TypeId} {xs : List Value} (h : W.ownsRow b e 1 (.slice (some ⟨g, 0, none⟩) m c) m xs) : g < W.heap.size ∧ b ≤ g := by
  obtain ⟨q1, ⟨hv, _⟩ | ⟨g1, cap1, cur, hv, hbg, hr, hq⟩⟩ := h
  · cases hv
  · cases hv
    exact ⟨lt_of_row hr, hbg⟩
theorem or_other {W : World} {b g g' m c t : Nat} {e : TypeId} {xs : List Value} {v : Value} (h : W.ownsRow b e 1 (.slice (some ⟨g, 0, none⟩) m c) m xs) (hx : g ≠ g') : (W.setCell ⟨g', t, none⟩ v).ownsRow b e 1 (.slice (some ⟨g, 0, none⟩) m c) m xs := by
  obtain ⟨q1, ⟨hv, _⟩ | ⟨g1, cap1, cur, hv, hbg, hr, hq⟩⟩ := h
  · cases hv
  · cases hv
    exact ⟨q1, .inr ⟨g, c, cur, rfl, hbg, heap_other hr hx, hq⟩⟩
/-- A list that was handed out: a row with room behind it, or nil. -/
def apV (x : Option Nat × Nat × Nat) : Value := match x.1 with
  | some g => .slice (some ⟨g, 0, none⟩) x.2.1 x.2.2
  | none => .slice none 0 0
def apN (x : Option Nat × Nat × Nat) : Nat := match x.1 with
  | some _ => x.2.1
  | none => 0
def apC (x : Option Nat × Nat × Nat) : Nat := match x.1 with
  | some _ => x.2.2
  | none => 0
def apA (x : Option Nat × Nat × Nat) : Option Addr := x.1.map fun g => ⟨g, 0, none⟩
theorem apV_eq (x : Option Nat × Nat × Nat) : apV x = .slice (apA x) (apN x) (apC x) := by
  obtain ⟨_ | g, m, c⟩ := x <;> rfl
/-- The rows of such lists, with P of each. -/
def ApR (lo : Nat) (W : World) (xs : List (Option Nat × Nat × Nat)) (P : Nat → List Int → Prop) : Prop := ∀ (j g m c : Nat), xs[j]? = some (some g, m, c) → ∃ l : List Int, l.length = m ∧ W.ownsRow lo 5 1 (.slice (some ⟨g, 0, none⟩) m c) m (l.map (Value.int .u8)) ∧ P j l
def ApD (xs : List (Option Nat × Nat × Nat)) : Prop := ∀ (i j : Nat) (g m n c d : Nat), xs[i]? = some (some g, m, c) → xs[j]? = some (some g, n, d) → i = j
theorem ApR.mono {lo : Nat} {W : World} {xs : List (Option Nat × Nat × Nat)} {P Q : Nat → List Int → Prop} (h : ApR lo W xs P) (hq : ∀ (j : Nat) l g m c, xs[j]? = some (some g, m, c) → l.length = m → P j l → Q j l) : ApR lo W xs Q := fun j g m c hj => by
  obtain ⟨l, h1, h2, h3⟩ := h j g m c hj
  exact ⟨l, h1, h2, hq _ _ _ _ _ hj h1 h3⟩
theorem ApR.moved {lo : Nat} {W W' : World} {xs : List (Option Nat × Nat × Nat)} {P : Nat → List Int → Prop} {ob : Option Nat} (h : ApR lo W xs P) (hb : W.grownBy W' ob) (hx : ∀ (j g m c : Nat), xs[j]? = some (some g, m, c) → ob ≠ some g) : ApR lo W' xs P := fun j g m c hj => by
  obtain ⟨l, h1, h2, h3⟩ := h j g m c hj
  exact ⟨l, h1, or_move h2 hb (hx j g m c hj), h3⟩
theorem ApR.put {lo : Nat} {W : World} {xs : List (Option Nat × Nat × Nat)} {P Q : Nat → List Int → Prop} (h : ApR lo W xs P) (hd : ApD xs) {k g m c t : Nat} {z : Int} (hk : xs[k]? = some (some g, m, c)) (ht : t < m) (hp : ∀ l, l.length = m → P k l → Q k (l.set t z)) (hq : ∀ j l, j ≠ k → P j l → Q j l) : ApR lo (W.setCell ⟨g, t, none⟩ (.int .u8 z)) xs Q := fun j g' m' c' hj => by
  obtain ⟨l, h1, h2, h3⟩ := h j g' m' c' hj
  by_cases e : g' = g
  · subst e
    obtain rfl := hd _ _ _ _ _ _ _ hk hj
    obtain ⟨_, rfl, rfl⟩ : True ∧ m = m' ∧ c = c' := ⟨trivial, by rw [hk] at hj; cases hj; exact ⟨rfl, rfl⟩⟩
    refine ⟨l.set t z, by rw [List.length_set]; exact h1, (or_set h2).resolve_right (by omega), hp l h1 h3⟩
  · refine ⟨l, h1, or_other h2 e, hq j l (fun ej => e ?_) h3⟩
    subst ej
    rw [hk] at hj
    cases hj
    rfl
theorem getD_set_if6 (l : List Int) (t u : Nat) (z : Int) (h : t < l.length) : (l.set t z).getD u 0 = if u = t then z else l.getD u 0 := by
  rw [List.getD_eq_getElem?_getD, List.getD_eq_getElem?_getD, List.getElem?_set]
  by_cases e : t = u
  · subst e; simp [h]
  · rw [if_neg e, if_neg (Ne.symm e)]
theorem ap_some {x : Option Nat × Nat × Nat} {t : Nat} (h : t < apN x) : ∃ g m c, x = (some g, m, c) := by
  obtain ⟨_ | g, m, c⟩ := x
  · simp [apN] at h
  · exact ⟨g, m, c, rfl⟩
theorem ap_row {W : World} {gl : Nat} {xs : List (Option Nat × Nat × Nat)} (hg : W.heap[gl]? = some (.cells (xs.map apV).toArray 28 (0, 0))) (i : Nat) (hi : i < xs.length) : W.cell? ⟨gl, i, none⟩ = some (.slice (apA (xs.getD i (none, 0, 0))) (apN (xs.getD i (none, 0, 0))) (apC (xs.getD i (none, 0, 0)))) := by
  rw [cell_of hg (show (xs.map apV).toArray[i]? = some (apV (xs.getD i (none, 0, 0))) by rw [List.getElem?_toArray, List.getElem?_map, List.getElem?_eq_getElem hi, List.getD_eq_getElem?_getD, List.getElem?_eq_getElem hi]; rfl), apV_eq]
/-- An answer: the three keys, the error, the extra. -/
structure Ans where
  a : List Int
  b : List Int
  c : List Int
  e : Int
  l : List Int
structure Ans.ok (t : Ans) : Prop where
  a : t.a.length = 32
  b : t.b.length = 32
  c : t.c.length = 32
  l : t.l.length ≤ 64
  z : B8 t.l
def ans (can : Bool) (ks : List (List Int)) (f : Int) (p q : List Int) : Ans :=
  if can = false then ⟨zr 32, zr 32, zr 32, 140, []⟩ else if f ≠ 0 then ⟨zr 32, zr 32, zr 32, f, []⟩ else ⟨pt (scb ks) 0 32, pt (scb ks) 32 32, pt (scb ks) 64 32, 0, p ++ q⟩
theorem ans_ok (can : Bool) (ks : List (List Int)) (f : Int) (p q : List Int) (hp : K8 p) (hq : K8 q) : (ans can ks f p q).ok := by
  have hz : (zr 32).length = 32 := zr_len 32
  have hx := scb_len ks
  unfold ans
  split
  · exact ⟨hz, hz, hz, by simp, fun x hx => by simp at hx⟩
  · split
    · exact ⟨hz, hz, hz, by simp, fun x hx => by simp at hx⟩
    · exact ⟨pt_len _ _ _ (by omega), pt_len _ _ _ (by omega), pt_len _ _ _ (by omega), by simp [hp.1, hq.1], B8.app hp.2 hq.2⟩
def AnsR (t : Ans) (w : World) (e : Ending) (w' : World) : Prop := ∃ v, e = .returned (.tuple #[.agg (scr t.a t.b t.c v), .int .i64 t.e]) ∧ OwnI w' w.heap.size v t.l ∧ Below w.heap.size w w'
theorem own_nilI (W : World) (b : Nat) : OwnI W b (.slice none 0 0) [] := ⟨rfl, .inl ⟨rfl, rfl⟩⟩
theorem SeR.toAns {sh : List Int → List Int} {er : List Int → Int} {ms : List (List Int)} {p q : List Int} {w w' : World} {e : Ending} (h : SeR sh er ms p q w e w') : AnsR (ans true (ms.map sh) (fer er ms) p q) w e w' := by
  obtain ⟨⟨hne, rfl⟩ | ⟨he, v, rfl, hO⟩, hb⟩ := h
  · unfold ans
    rw [if_neg (by simp), if_pos hne]
    exact ⟨_, rfl, own_nilI _ _, hb⟩
  · unfold ans
    rw [if_neg (by simp), if_neg (by simp [he])]
    exact ⟨v, rfl, hO, hb⟩
theorem StR.toAns {can : Bool} {sh : List Int → List Int} {er : List Int → Int} {ms : List (List Int)} {p q : List Int} {w w' : World} {e : Ending} (h : StR can sh er ms p q w e w') : AnsR (ans can (ms.map sh) (fer er ms) p q) w e w' := by
  rcases h with ⟨rfl, rfl, hb⟩ | ⟨rfl, h⟩
  · exact ⟨_, rfl, own_nilI _ _, hb⟩
  · exact h.toAns
theorem tk (a b : List Int) (n : Nat) (h : a.length = n) : (a ++ b).take n = a := by rw [← h]; exact List.take_left
theorem dp (a b : List Int) (n : Nat) (h : a.length = n) : (a ++ b).drop n = b := by rw [← h]; exact List.drop_left
theorem p1 (a b c : List Int) (ha : a.length = 32) (hb : b.length = 32) : ((a ++ b) ++ c).take 32 = a ∧ ((a ++ b) ++ c).drop 64 = c := by
  refine ⟨by rw [List.append_assoc]; exact tk _ _ _ ha, dp _ _ _ (by simp [ha, hb])⟩
theorem p2 (a b c : List Int) (hc : c.length = 32) (ha : a.length = 32) : ((c ++ (a ++ b)).drop 32).take 32 = a ∧ (c ++ (a ++ b)).take 32 = c := by
  refine ⟨by rw [dp _ _ _ hc]; exact tk _ _ _ ha, tk _ _ _ hc⟩
theorem e1 (a b c : List Int) (ha : a.length = 32) (hb : b.length = 32) : sh1 ((a ++ b) ++ c) = shH (a ++ c) ∧ er1 ((a ++ b) ++ c) = erH (a ++ c) := by
  obtain ⟨q1, q2⟩ := p1 a b c ha hb
  unfold sh1 er1 shH erH
  rw [q1, q2, tk _ _ _ ha, dp _ _ _ ha]
  exact ⟨rfl, rfl⟩
theorem e2 (a b c : List Int) (hc : c.length = 32) (ha : a.length = 32) : sh2 (c ++ (a ++ b)) = shH (a ++ c) ∧ er2 (c ++ (a ++ b)) = erH (a ++ c) := by
  obtain ⟨q1, q2⟩ := p2 a b c hc ha
  unfold sh2 er2 shH erH
  rw [q1, q2, tk _ _ _ ha, dp _ _ _ ha]
  exact ⟨rfl, rfl⟩
theorem both1 (pa pb fa fb i s o : List Int) (h : Bool) (h1 : pa.length = 32) (h2 : pb.length = 32) (h3 : fa.length = 32) (h4 : fb.length = 32) : (mts (pa ++ pb) (fa ++ fb) i s o h).map sh1 = (hlv pa s fa i fa s fa o h).map shH ∧ fer er1 (mts (pa ++ pb) (fa ++ fb) i s o h) = fer erH (hlv pa s fa i fa s fa o h) := by
  obtain ⟨a1, b1⟩ := e1 pa pb s h1 h2
  obtain ⟨a2, b2⟩ := e1 fa fb i h3 h4
  obtain ⟨a3, b3⟩ := e1 fa fb s h3 h4
  obtain ⟨a4, b4⟩ := e1 fa fb o h3 h4
  cases h
  · rw [mts_f, hlv_f]
    exact ⟨by simp only [List.map_cons, List.map_nil, a1, a2, a3], by simp only [fer, b1, b2, b3]⟩
  · rw [mts_t, hlv_t]
    exact ⟨by simp only [List.map_append, List.map_cons, List.map_nil, a1, a2, a3, a4], by simp only [List.cons_append, List.nil_append, fer, b1, b2, b3, b4]⟩
theorem both2 (ia ib sa sb oa ob p f : List Int) (h : Bool) (h1 : ia.length = 32) (h2 : sa.length = 32) (h3 : oa.length = 32) (h4 : p.length = 32) (h5 : f.length = 32) : (mts p f (ia ++ ib) (sa ++ sb) (oa ++ ob) h).map sh2 = (hlv sa p ia f sa f oa f h).map shH ∧ fer er2 (mts p f (ia ++ ib) (sa ++ sb) (oa ++ ob) h) = fer erH (hlv sa p ia f sa f oa f h) := by
  obtain ⟨a1, b1⟩ := e2 sa sb p h4 h2
  obtain ⟨a2, b2⟩ := e2 ia ib f h5 h1
  obtain ⟨a3, b3⟩ := e2 sa sb f h5 h2
  obtain ⟨a4, b4⟩ := e2 oa ob f h5 h3
  cases h
  · rw [mts_f, hlv_f]
    exact ⟨by simp only [List.map_cons, List.map_nil, a1, a2, a3], by simp only [fer, b1, b2, b3]⟩
  · rw [mts_t, hlv_t]
    exact ⟨by simp only [List.map_append, List.map_cons, List.map_nil, a1, a2, a3, a4], by simp only [List.cons_append, List.nil_append, fer, b1, b2, b3, b4]⟩
theorem ownI_ap {W : World} {b : Nat} {v : Value} {l : List Int} (h : OwnI W b v l) : ∃ y : Option Nat × Nat × Nat, apV y = v ∧ ∀ g m c, y = (some g, m, c) → m = l.length ∧ v.ownBlock = some g ∧ W.ownsRow b 5 1 (.slice (some ⟨g, 0, none⟩) m c) m (l.map (Value.int .u8)) := by
  obtain ⟨h1, ⟨rfl, h0⟩ | ⟨g, cap, cur, rfl, h3⟩⟩ := h
  · exact ⟨(none, 0, 0), rfl, fun g m c e => by cases e⟩
  · refine ⟨(some g, l.length, cap), rfl, fun g' m c e => ?_⟩
    cases e
    exact ⟨rfl, rfl, h1, .inr ⟨g, cap, cur, rfl, h3⟩⟩
set_option maxRecDepth 100000 in
set_option maxHeartbeats 4000000 in
theorem l_sameSec (a b c l : List Int) (v u : Value) (ha : a.length = 32) (hb : b.length = 32) (hc : c.length = 32) (w : World) (hv : Bys w v l) (hu : Bys w u l) : Calls Tryd.prog 5 #[.agg (scr a b c v), .agg (scr a b c u)] w fun e w' => e = .returned (.bool true) ∧ Below w.heap.size w w' := by
  have R0 := hp2_0 w (.cells (scr a b c v) 30) (.cells (scr a b c u) 30)
  have R1 := hp2_1 w (.cells (scr a b c v) 30) (.cells (scr a b c u) 30)
  have hw : Below w.heap.size w ((w.alloc (.cells (scr a b c v) 30)).alloc (.cells (scr a b c u) 30)) := ((Below.refl _ _).alloc (Nat.le_refl _) _).alloc (by simp) _
  have cS := l_same l l _ v u (hv.keep hw) (hu.keep hw)
  have q0 := fun W => eq_k a a ha ha W
  have q1 := fun W => eq_k b b hb hb W
  have q2 := fun W => eq_k c c hc hc W
  simp only [decide_true] at q0 q1 q2 cS
  have c_v : World.cell? _ ⟨w.heap.size, 96, none⟩ = some v := (cell_of_row _ _ _ _ _ _ R0).trans (sc_v a b c v ha hb hc)
  have c_u : World.cell? _ ⟨w.heap.size + 1, 96, none⟩ = some u := (cell_of_row _ _ _ _ _ _ R1).trans (sc_v a b c u ha hb hc)
  have xa := sc_a a b c v ha
  have xb := sc_b a b c v ha hb
  have xc := sc_c a b c v ha hb hc
  have ya := sc_a a b c u ha
  have yb := sc_b a b c u ha hb
  have yc := sc_c a b c u ha hb hc
  generalize scr a b c v = A at *
  generalize scr a b c u = B at *
  go_enter Tryd.func5, Tryd.ntmps5
  go_upto_region 1 with (first | (refine wpList_box rfl 30 _ rfl _ rfl (box_scr _) ?_) | fail)
  try simp only [size_alloc1, Act.put, List.setIfInBounds_toArray, List.set_cons_succ, List.set_cons_zero]
  generalize ((w.alloc (.cells A 30)).alloc (.cells B 30)) = w1 at *
  repeat ((fail_if_success (refine wpList_load_part rfl 23 _ rfl (w.heap.size) 0 rfl 30 A (0, 0) (irow .u8 a) _ R0 xa Tryd.underlying23 rfl (infoKy _ ha) ?_)); first | go_skip | go_step)
  refine wpList_load_part rfl 23 _ rfl (w.heap.size) 0 rfl 30 A (0, 0) (irow .u8 a) _ R0 xa Tryd.underlying23 rfl (infoKy _ ha) ?_
  repeat ((fail_if_success (refine wpList_load_part rfl 23 _ rfl (w.heap.size + 1) 0 rfl 30 B (0, 0) (irow .u8 a) _ R1 ya Tryd.underlying23 rfl (infoKy _ ha) ?_)); first | go_skip | go_step)
  refine wpList_load_part rfl 23 _ rfl (w.heap.size + 1) 0 rfl 30 B (0, 0) (irow .u8 a) _ R1 ya Tryd.underlying23 rfl (infoKy _ ha) ?_
  try simp only [Act.put, List.setIfInBounds_toArray, List.set_cons_succ, List.set_cons_zero]
  repeat ((fail_if_success (refine wpList_load_part rfl 23 _ rfl (w.heap.size) 32 rfl 30 A (0, 0) (irow .u8 b) _ R0 xb Tryd.underlying23 rfl (infoKy _ hb) ?_)); first | go_skip | go_step)
  refine wpList_load_part rfl 23 _ rfl (w.heap.size) 32 rfl 30 A (0, 0) (irow .u8 b) _ R0 xb Tryd.underlying23 rfl (infoKy _ hb) ?_
  repeat ((fail_if_success (refine wpList_load_part rfl 23 _ rfl (w.heap.size + 1) 32 rfl 30 B (0, 0) (irow .u8 b) _ R1 yb Tryd.underlying23 rfl (infoKy _ hb) ?_)); first | go_skip | go_step)
  refine wpList_load_part rfl 23 _ rfl (w.heap.size + 1) 32 rfl 30 B (0, 0) (irow .u8 b) _ R1 yb Tryd.underlying23 rfl (infoKy _ hb) ?_
  try simp only [Act.put, List.setIfInBounds_toArray, List.set_cons_succ, List.set_cons_zero]
  repeat ((fail_if_success (refine wpList_load_part rfl 23 _ rfl (w.heap.size) 64 rfl 30 A (0, 0) (irow .u8 c) _ R0 xc Tryd.underlying23 rfl (infoKy _ hc) ?_)); first | go_skip | go_step)
  refine wpList_load_part rfl 23 _ rfl (w.heap.size) 64 rfl 30 A (0, 0) (irow .u8 c) _ R0 xc Tryd.underlying23 rfl (infoKy _ hc) ?_
  repeat ((fail_if_success (refine wpList_load_part rfl 23 _ rfl (w.heap.size + 1) 64 rfl 30 B (0, 0) (irow .u8 c) _ R1 yc Tryd.underlying23 rfl (infoKy _ hc) ?_)); first | go_skip | go_step)
  refine wpList_load_part rfl 23 _ rfl (w.heap.size + 1) 64 rfl 30 B (0, 0) (irow .u8 c) _ R1 yc Tryd.underlying23 rfl (infoKy _ hc) ?_
  try simp only [Act.put, List.setIfInBounds_toArray, List.set_cons_succ, List.set_cons_zero]
  go_wp2_with (fail)
  refine cS.mono ?_
  rintro e_ w2 ⟨rfl, hb2⟩
  replace hw := Below.after hw hb2
  go_wp2_with (fail)
  go_ret
  exact ⟨rfl, hw⟩

end Go.Proofs.YtkpjpdlamojejaaDoor
