import Derived.Test.YtnbkdlfkacbfjaaHk
import Derived.OwnWalk
import Derived.OrdersHeld
import Derived.Deep.RegionHeld3
import Derived.Deep.DeepAppendRoom
import Derived.Test.YtnbkdlfkacbfjaaWa
namespace Go.Proofs.Ytnbkdlfkacbfjaa
open Go Go.RowKit Go.Sort
attribute [local go_sem] setCell_drewN alloc_drewN

def bv (a : B) : Int := (a.toNat : Int)
theorem bnd (a : B) : 0 ≤ bv a ∧ bv a < 256 := by
  have := a.isLt
  unfold bv
  omega
theorem bv_nat (a : B) : (bv a).toNat = a.toNat := rfl
theorem bv_inj {a b : B} : bv a = bv b ↔ a = b := by
  constructor
  · intro h; apply BitVec.eq_of_toNat_eq; unfold bv at h; omega
  · rintro rfl; rfl
def bl (l : List B) : List Int := l.map bv
theorem bl_len (l : List B) : (bl l).length = l.length := by simp [bl]
theorem bl_get (l : List B) (j : Nat) : (bl l).getD j 0 = bv (l.getD j 0#8) := by
  simp only [bl, List.getD_eq_getElem?_getD, List.getElem?_map]
  cases l[j]? <;> rfl
theorem bl_set (l : List B) (j : Nat) (z : B) : (bl l).set j (bv z) = bl (l.set j z) := by
  simp [bl, List.map_set]
theorem bl_zr (n : Nat) : bl (List.replicate n 0#8) = zr n := by
  simp only [bl, zr, List.map_replicate]; rfl
theorem bl_bnd (l : List B) : ∀ z ∈ bl l, 0 ≤ z ∧ z < 256 := by
  intro z h
  obtain ⟨b, _, rfl⟩ := List.mem_map.1 h
  exact bnd b
theorem brow_cell {W : World} {g : Nat} {l : List B} {t : TypeId} (hg : W.heap[g]? = some (.cells (irow .u8 (bl l)) t (0, 0))) {j : Nat} (hj : j < l.length) : W.cell? ⟨g, j, none⟩ = some (.int .u8 (bv (l.getD j 0#8))) := by
  rw [← bl_get]; exact irow_cell hg (by rw [bl_len]; exact hj)
theorem brow_set {W : World} {g : Nat} {l : List B} {t : TypeId} (hg : W.heap[g]? = some (.cells (irow .u8 (bl l)) t (0, 0))) (j : Nat) (z : B) : (W.setCell ⟨g, j, none⟩ (.int .u8 (bv z))).heap[g]? = some (.cells (irow .u8 (bl (l.set j z))) t (0, 0)) := by
  rw [← bl_set]; exact irow_set hg j (bv z)
theorem brow_at (l : List B) (j : Nat) (hj : j < l.length) : (irow .u8 (bl l))[j]? = some (.int .u8 (bv (l.getD j 0#8))) := by
  rw [← bl_get]; exact irow_get .u8 _ j (by rw [bl_len]; exact hj)
theorem brow_put (l : List B) (j : Nat) (z : B) : (irow .u8 (bl l)).setIfInBounds j (.int .u8 (bv z)) = irow .u8 (bl (l.set j z)) := by
  simp [irow, bl, List.map_set]
theorem bl_app (a b : List B) : bl (a ++ b) = bl a ++ bl b := by simp [bl]
theorem bl_take (a : List B) (n : Nat) : bl (a.take n) = (bl a).take n := by simp [bl, List.map_take]
theorem bl_drop (a : List B) (n : Nat) : bl (a.drop n) = (bl a).drop n := by simp [bl, List.map_drop]
theorem bl_inj {a b : List B} (h : bl a = bl b) : a = b := by
  induction a generalizing b with
  | nil => cases b with
    | nil => rfl
    | cons y b => simp [bl] at h
  | cons x a ih => cases b with
    | nil => simp [bl] at h
    | cons y b =>
      simp only [bl, List.map_cons, List.cons.injEq] at h
      rw [bv_inj.1 h.1, ih h.2]
theorem bl_dec (a b : List B) : decide (bl a = bl b) = decide (a = b) := by
  by_cases h : a = b
  · subst h; simp
  · rw [decide_eq_false h, decide_eq_false (fun e => h (bl_inj e))]
/-- How long a slice is. -/
def slen : Value → Nat
  | .slice _ l _ => l
  | _ => 0
theorem slen_own {W : World} {b : Nat} {T : TypeId} {sz : Nat} {v : Value} {n : Nat} {xs : List Value} (h : W.ownsRow b T sz v n xs) : ∃ ao cap, v = .slice ao n cap := by
  obtain ⟨_, ⟨rfl, rfl⟩ | ⟨g, cap, cur, rfl, _⟩⟩ := h
  · exact ⟨_, _, rfl⟩
  · exact ⟨_, _, rfl⟩
set_option maxRecDepth 100000 in
theorem info8 : ∃ i, Try.prog.info? 5 = some i ∧ i.zero = some (.int .u8 0) ∧ i.size = 1 ∧ i.bytes = 1 := ⟨_, rfl, rfl, rfl, rfl⟩
theorem new_cell (wr : World) (x : Int) : ∀ j u, [Value.int .u8 x][j]? = some u → (wr.alloc (.cells #[.int .u8 x] 5)).cell? ((⟨wr.heap.size, 0, none⟩ : Addr).add j) = some u := by
  intro j u hu
  have hj : j = 0 := by
    have := (List.getElem?_eq_some_iff.1 hu).1
    simp at this
    exact this
  subst hj
  simp at hu
  subst hu
  rw [addr_add]
  have hg : (wr.alloc (.cells #[.int .u8 x] 5)).heap[wr.heap.size]? = some (.cells #[.int .u8 x] 5 (0, 0)) := hp1_0 wr _
  simp only [World.cell?, hg]
  rfl
/-- An append whose row is either the old one or a new block. -/
theorem wpList_append_two {P : Program} (w : World) {ops : Array Oper} {rest : List Oper} {o : Oper} {a : Act} {Q : Exit → Act → World → Prop} (hgd : o.guard = none) (s x : Operand) (t : TypeId)
    (ho : o.op = .call { callee := .builtin .append, args := #[s, x], argTypes := #[t, t] })
    (base : Nat) (e : TypeId) (i : TypeInfo) (z : Value) (ht : P.underlying t = some (.slice e)) (hi : P.info? e = some i) (hz : i.zero = some z)
    (hsize : i.size = 1) (hby : i.bytes = 1) (hzs : z.cells.size = 1)
    (g n cap : Nat) (xs : List Value) (hs : a.eval s = .slice (some ⟨g, 0, none⟩) n cap) (hown : w.ownsRow base e 1 (.slice (some ⟨g, 0, none⟩) n cap) n xs)
    (ad : Addr) (m c : Nat) (news : List Value) (hx : a.eval x = .slice (some ad) m c) (hl : news.length = m * 1) (hnews : ∀ j u, news[j]? = some u → w.cell? (ad.add j) = some u) (h1 : ∀ u ∈ news, u.oneCell' = true)
    (h63 : n + m ≤ maxLen) (hbytes : (n + m) * 1 ≤ 140737488355328) (hbase : base ≤ w.heap.size)
    (h : ∀ g' cap' w', w'.ownsRow base e 1 (.slice (some ⟨g', 0, none⟩) (n + m) cap') (n + m) (xs ++ news) → w.grownBy w' (some g) → (g' = g ∨ g' = w.heap.size) → wpList P ops Q rest (a.put o.dst (.slice (some ⟨g', 0, none⟩) (n + m) cap')) w') : wpList P ops Q (o :: rest) a w := by
  refine wpList_plain hgd fun K hK => ?_
  obtain ⟨v', w', hr, h2, h3, _⟩ := run_append_own (P := P) w base t o.type e i z 1 1 ht hi hz hsize hby hzs (by decide) _ n xs hown ad m c news hl hnews h1 h63 hbytes hbase
  have key : ∃ g' cap', v' = .slice (some ⟨g', 0, none⟩) (n + m) cap' ∧ (g' = g ∨ g' = w.heap.size) := by
    rcases hown.2 with ⟨hv, _⟩ | ⟨g1, cap1, cur, hv, hbg, hg, hnc, hcm, hcs, htake⟩
    · cases hv
    · cases hv
      by_cases hroom : n + m ≤ cap
      · have hr2 := run_append_room (P := P) w t o.type e i ht hi g n cap cur hg ad m c news (by rw [hsize]; exact hl) hnews h1 hroom (by rw [hsize, hl, hcs]; omega)
        have := hr.symm.trans hr2
        injection this with e1 e2
        exact ⟨g, cap, e1, .inl rfl⟩
      · have holds : ∀ j u, xs[j]? = some u → w.cell? ((⟨g, 0, none⟩ : Addr).add j) = some u := hown.cells (g := g) rfl
        have hr2 := run_append_grow (P := P) w t o.type e i z ht hi hz ⟨g, 0, none⟩ n cap xs (by rw [hsize]; exact hown.1) holds ad m c news (by rw [hsize]; exact hl) hnews (by omega) (by simp only [maxLen] at h63; omega) (growslice_fits (by omega) (by rw [hby]; exact hbytes))
        have := hr.symm.trans hr2
        injection this with e1 e2
        exact ⟨_, _, e1, .inr rfl⟩
  obtain ⟨g', cap', rfl, hgg⟩ := key
  unfold Oper.wp execOp
  simp only [ho, resolve, invoke, builtin, Sem.run_bind, Sem.run_pure, Result.andThen_ok, List.map_toArray, List.map_cons, List.map_nil, hs, hx, hr]
  exact hK _ _ (h g' cap' w' h2 h3 hgg)
set_option maxHeartbeats 2000000 in
/-- Two slices that say the same. -/
theorem same_any (bs : List Int) (w : World) (u v : Value) (hu : Bys w u bs) (hv : Bys w v bs) : Calls Try.prog 13 #[u, v] w fun e w' => e = .returned (.bool true) ∧ Below w.heap.size w w' := by
  obtain ⟨ao, cap, rfl, hl, hc, hz⟩ := hu
  obtain ⟨ao', cap', rfl, _, hc', _⟩ := hv
  generalize hlen : bs.length = len at *
  go_enter Try.func13, Try.ntmps13
  go_wp2
  go_loopw [5] (fun i wr => ∃ k : Nat, k ≤ len ∧ i = .int .i64 k ∧ Below w.heap.size w wr) (fun i _ => len - (intOf i).toNat)
  case atStart => exact ⟨0, by omega, rfl, Below.refl _ _⟩
  case round =>
    obtain ⟨k, hk, rfl, hw⟩ := hrel
    by_cases hlt : k < len
    · have hd : decide ((k : Int) < (len : Int)) = true := by simp; omega
      obtain ⟨b, off, rfl, hb1, hb2⟩ := hc k hlt
      obtain ⟨b', off', rfl, hb1', hb2'⟩ := hc' k hlt
      replace hb2 := (hw.cell (p := ⟨b, off + k, none⟩) hb1).trans hb2
      replace hb2' := (hw.cell (p := ⟨b', off' + k, none⟩) hb1').trans hb2'
      generalize bs.getD k 0 = z at *
      clear hc hc'
      go_wp2
      have k1 : ∀ p : Regrown, (grow (redrawn wr p.d) p.os).cell? ⟨b, off + k, none⟩ = some (.int .u8 z) := fun p => cell_regrown (hb2) p.d p.os
      have k2 : ∀ p : Regrown, (grow (redrawn wr p.d) p.os).cell? ⟨b', off' + k, none⟩ = some (.int .u8 z) := fun p => cell_regrown (hb2') p.d p.os
      refine wp_region_quiet_below (by kernel_rfl) (by kernel_rfl) ?_
      go_big_quiet_step (fail)
      go_big_quiet_step (fail)
      go_big_quiet_step (fail)
      go_big_quiet_step (fail)
      go_big_quiet_step (fail)
      go_big_quiet_step (fail)
      go_big_quiet_step (fail)
      go_big_quiet_step (fail)
      go_big_quiet_step (fail)
      refine wpQuiet_nil ?_
      rintro _ ⟨p, rfl⟩
      have hb := below_regrown wr p.d p.os
      generalize grow (redrawn wr p.d) p.os = w1 at *
      clear k1 k2
      replace hw := Below.after hw hb
      clear hb

      go_wp2
      refine ⟨⟨k + 1, by omega, by go_num, hw⟩, ?_⟩
      simp [intOf]; omega
    · obtain rfl : k = len := by omega
      have hd : decide ((k : Int) < (k : Int)) = false := by simp
      go_wp2
      go_ret
      exact ⟨rfl, hw⟩
theorem grown_trans {a b c : World} {row : Option Nat} {g : Nat} (h : a.grownBy b (some g)) (h2 : b.grownBy c row) (hr : row = none ∨ row = some g ∨ ∃ k, row = some k ∧ a.heap.size ≤ k) : a.grownBy c (some g) := by
  refine ⟨h2.os.trans h.os, h2.tape.trans h.tape, h2.output.trans h.output, Nat.le_trans h.size h2.size, fun k hk hn => ?_⟩
  have h3 := h.size
  refine (h2.block k (by omega) ?_).trans (h.block k hk hn)
  rcases hr with rfl | rfl | ⟨q, rfl, hq⟩
  · simp
  · exact hn
  · intro e; injection e with e; omega
theorem grown_setCell {a b : World} {g j : Nat} {v : Value} (h : a.grownBy b (some g)) : a.grownBy (b.setCell ⟨g, j, none⟩ v) (some g) := by
  refine ⟨h.os, h.tape, h.output, ?_, fun k hk hn => ?_⟩
  · have e : (b.setCell ⟨g, j, none⟩ v).heap.size = b.heap.size := by simp [World.setCell]
    rw [e]; exact h.size
  · rw [heap_setCell_other b ⟨g, j, none⟩ k v (fun e => hn (by rw [e]))]
    exact h.block k hk hn
/-- The marked room behind what is lent. -/
def marks (k : Nat) : List Int := (List.range k).map fun (i : Nat) => 171 + ((i % 60 : Nat) : Int)
theorem marks_succ (k : Nat) : marks (k + 1) = marks k ++ [171 + ((k % 60 : Nat) : Int)] := by simp [marks, List.range_succ]
set_option maxHeartbeats 2000000 in
theorem lent_walk (bs : List Int) (w : World) (ev : Value) (hB : Bys w ev bs) (hl : bs.length + 80 ≤ 281474976710656) (hnil : ∀ a l c, ev = .slice a l c → a = none → c = 0) : Calls Try.prog 4 #[ev] w fun e w' => ∃ v, e = .returned v ∧ ∃ g, v = .tuple #[.slice (some ⟨g, 0, none⟩) bs.length (bs.length + 80), .slice (some ⟨g, 0, none⟩) (bs.length + 80) (bs.length + 80)] ∧ w.heap.size ≤ g ∧ w'.heap[g]? = some (.cells (irow .u8 (bs ++ marks 80)) 5 (0, 0)) ∧ Below w.heap.size w w' := by
  obtain ⟨ao, cap, rfl, _, hc, hz⟩ := hB
  obtain ⟨i0, hi, hz0, hz1, hz2⟩ := info8
  generalize hlen : bs.length = len at *
  go_enter Try.func4, Try.ntmps4
  go_wp2_with (at_make; refine wpList_make_own _ rfl _ _ 22 rfl w.heap.size 5 i0 (.int .u8 0) 1 Try.underlying22 hi hz0 hz1 _ _ _ (len + 80) rfl rfl (by omega) ?b2 ?b3 (Nat.le_refl _) ?_)
  case b2 => rw [hz2]; omega
  case b3 => unfold maxLen; omega
  intro w0 hown0 hgrow0
  have hnone : ao = none → len = 0 ∧ cap = 0 := by
    intro h
    refine ⟨?_, hnil _ _ _ rfl h⟩
    rcases Nat.eq_zero_or_pos len with e | e
    · exact e
    · obtain ⟨b, off, e', _⟩ := hc 0 e
      rw [h] at e'; cases e'
  have hcell : ∀ ad, ao = some ad → ∀ j u, (bs.map (Value.int .u8))[j]? = some u → w0.cell? (ad.add j) = some u := by
    intro ad had j u hu
    have hj : j < len := by
      have := (List.getElem?_eq_some_iff.1 hu).1
      simpa [hlen] using this
    obtain ⟨b, off, e', hb, hcl⟩ := hc j hj
    obtain rfl : ad = ⟨b, off, none⟩ := Option.some.inj (had.symm.trans e')
    have : u = .int .u8 (bs.getD j 0) := by
      have hj' : j < bs.length := by omega
      simp only [List.getElem?_map, List.getElem?_eq_getElem hj', Option.map_some, Option.some.injEq] at hu
      rw [← hu, List.getD_eq_getElem?_getD, List.getElem?_eq_getElem hj']; rfl
    rw [this]
    rw [addr_add]
    exact hgrow0.cell (a := ⟨b, off + j, none⟩) hcl (fun e => by cases e)
  go_wp2_with (at_builtin; refine wpList_append_fits_any _ rfl (.tmp 10) (.tmp 11) 22 rfl w.heap.size 5 i0 1 Try.underlying22 hi hz1 w.heap.size 0 (len + 80) [] rfl hown0 ao len cap (bs.map (Value.int .u8)) rfl (by simp [hlen]) hnone hcell (ints_one .u8 bs) (by omega) ?_)
  intro w1 hown1 hgrow1
  have hw : Below w.heap.size w w1 := ((Below.refl _ _).grown hgrow0 (Nat.le_refl _) (fun k h => by cases h)).grown hgrow1 hgrow0.size (fun k h => by cases h; exact Nat.le_refl _)
  clear hcell hown0 hgrow0 hgrow1
  go_wp2
  go_loopw [4, 5] (fun s i wr => ∃ k : Nat, k ≤ 80 ∧ i = .int .i64 k ∧ s = .slice (some ⟨w.heap.size, 0, none⟩) (len + k) (len + 80) ∧ wr.ownsRow w.heap.size 5 1 (.slice (some ⟨w.heap.size, 0, none⟩) (len + k) (len + 80)) (len + k) ((bs ++ marks k).map (Value.int .u8)) ∧ Below w.heap.size w wr) (fun _ i _ => 80 - (intOf i).toNat)
  case atStart => exact ⟨0, by omega, rfl, by simp, by simpa [marks] using hown1, hw⟩
  case round =>
    obtain ⟨k, hk, rfl, rfl, hown, hw⟩ := hrel
    by_cases hlt : k < 80
    · have hd : decide ((k : Int) < 80) = true := by simp; omega
      have hown' : (wr.alloc (.cells #[.int .u8 (171 + (k : Int) % 60)] 5)).ownsRow w.heap.size 5 1 (.slice (some ⟨w.heap.size, 0, none⟩) (len + k) (len + 80)) (len + k) ((bs ++ marks k).map (Value.int .u8)) := hown.kept (World.grownBy_alloc wr _ none) (.inr (by simp [Value.ownBlock]))
      have hnew : ∀ ad, some (⟨wr.heap.size, 0, none⟩ : Addr) = some ad → ∀ j u, [Value.int .u8 (171 + (k : Int) % 60)][j]? = some u → (wr.alloc (.cells #[.int .u8 (171 + (k : Int) % 60)] 5)).cell? (ad.add j) = some u := by
        intro ad had j u hu
        obtain rfl := Option.some.inj had
        have hj : j = 0 := by
          have := (List.getElem?_eq_some_iff.1 hu).1
          simp at this
          exact this
        subst hj
        simp at hu
        subst hu
        rw [addr_add]
        have hg : (wr.alloc (.cells #[.int .u8 (171 + (k : Int) % 60)] 5)).heap[wr.heap.size]? = some (.cells #[.int .u8 (171 + (k : Int) % 60)] 5 (0, 0)) := hp1_0 wr _
        simp only [World.cell?, hg]
        rfl
      go_wp2_with (at_builtin; refine wpList_append_fits_any _ rfl (.tmp 17) (.tmp 22) 22 rfl w.heap.size 5 i0 1 Try.underlying22 hi hz1 w.heap.size (len + k) (len + 80) _ rfl hown' (some ⟨wr.heap.size, 0, none⟩) 1 1 [.int .u8 (171 + (k : Int) % 60)] rfl rfl (by intro h; cases h) hnew (by simp [Value.oneCell']) (by omega) ?_)
      intro w2 hown2 hgrow2
      have hw2 : Below w.heap.size w w2 := (hw.alloc hw.size _).grown hgrow2 (by simp; have := hw.size; omega) (fun k h => by cases h; exact Nat.le_refl _)
      replace hown2 : w2.ownsRow w.heap.size 5 1 (.slice (some ⟨w.heap.size, 0, none⟩) (len + (k + 1)) (len + 80)) (len + (k + 1)) ((bs ++ marks (k + 1)).map (Value.int .u8)) := by rw [marks_succ, ← Nat.add_assoc]; simpa using hown2
      clear hown hown' hnew hgrow2 hw
      go_wp2
      go_roundw
      case rel => exact ⟨k + 1, by omega, by go_num, rfl, hown2, hw2⟩
      case measure => simp [intOf]; omega
    · obtain rfl : k = 80 := by omega
      have hd : decide ((80 : Int) < 80) = false := by decide
      have hrow : wr.heap[w.heap.size]? = some (.cells (irow .u8 (bs ++ marks 80)) 5 (0, 0)) := by
        obtain ⟨hlx, h | ⟨g, cp, cur, hv, _, hg, _, _, hs, ht⟩⟩ := hown
        · cases h.1
        · cases hv
          rw [hg]
          have : cur = irow .u8 (bs ++ marks 80) := by
            apply Array.ext'
            rw [irow, ← ht]
            symm
            apply List.take_of_length_le
            rw [Array.length_toList]
            omega
          rw [this]
      clear hown
      go_wp2
      go_ret2
      exact ⟨_, rfl, _, rfl, Nat.le_refl _, hrow, hw⟩
theorem at_low (bs : List Int) (k : Nat) (hk : k < bs.length) : (bs ++ marks 80).getD k 0 = bs.getD k 0 := by
  simp [List.getD_eq_getElem?_getD, List.getElem?_append_left hk]
theorem at_high (bs : List Int) (k : Nat) (hk : ¬ k < bs.length) (hu : k < bs.length + 80) : (bs ++ marks 80).getD k 0 = 171 + ((k : Int) - bs.length) % 60 := by
  have : k - bs.length < 80 := by omega
  rw [List.getD_eq_getElem?_getD, List.getElem?_append_right (by omega)]
  simp [marks, this]
  omega
set_option maxHeartbeats 2000000 in
theorem kept_walk (bs : List Int) (g : Nat) (w : World) (ev : Value) (hB : Bys w ev bs) (hl : bs.length + 80 ≤ 281474976710656) (hg : w.heap[g]? = some (.cells (irow .u8 (bs ++ marks 80)) 5 (0, 0))) : Calls Try.prog 8 #[.slice (some ⟨g, 0, none⟩) (bs.length + 80) (bs.length + 80), ev] w fun e w' => e = .returned (.bool true) ∧ Below w.heap.size w w' := by
  obtain ⟨ao, cap, rfl, _, hc, hz⟩ := hB
  have hall : ∀ k, k < bs.length + 80 → w.cell? ⟨g, k, none⟩ = some (.int .u8 ((bs ++ marks 80).getD k 0)) := fun k hk => irow_cell hg (by simp [marks]; omega)
  have hgs := lt_of_row hg
  have hlow := at_low bs
  have hhigh := at_high bs
  generalize hlen : bs.length = len at *
  go_enter Try.func8, Try.ntmps8
  go_wp2
  go_loopw [5] (fun i wr => ∃ k : Nat, k ≤ len + 80 ∧ i = .int .i64 k ∧ Below w.heap.size w wr) (fun i _ => len + 80 - (intOf i).toNat)
  case atStart => exact ⟨0, by omega, rfl, Below.refl _ _⟩
  case round =>
    obtain ⟨k, hk, rfl, hw⟩ := hrel
    by_cases hlt : k < len + 80
    · have hd : decide ((k : Int) < (len : Int) + 80) = true := by simp; omega
      have h1 := (hw.cell (p := ⟨g, k, none⟩) hgs).trans (hall k hlt)
      by_cases hin : k < len
      · obtain ⟨b, off, rfl, hb1, hb2⟩ := hc k hin
        replace hb2 := (hw.cell (p := ⟨b, off + k, none⟩) hb1).trans hb2
        rw [hlow k hin] at h1
        have hd2 : decide ((k : Int) < (len : Int)) = true := by simp; omega
        have hd3 : decide (len ≤ k) = false := decide_eq_false (by omega)
        generalize bs.getD k 0 = z at *
        have k1 : ∀ p : Regrown, (grow (redrawn wr p.d) p.os).cell? ⟨g, k, none⟩ = some (.int .u8 z) := fun p => cell_regrown h1 p.d p.os
        have k2 : ∀ p : Regrown, (grow (redrawn wr p.d) p.os).cell? ⟨b, off + k, none⟩ = some (.int .u8 z) := fun p => cell_regrown hb2 p.d p.os
        clear h1 hb2 hall hc hlow hhigh
        go_wp2
        refine wp_region_quiet_below (by kernel_rfl) (by kernel_rfl) ?_
        go_big_quiet_step (fail)
        go_big_quiet_step (fail)
        go_big_quiet_step (fail)
        go_big_quiet_step (fail)
        go_big_quiet_step (fail)
        go_big_quiet_step (fail)
        go_big_quiet_step (fail)
        go_big_quiet_step (fail)
        go_big_quiet_step (fail)
        go_big_quiet_step (fail)
        go_big_quiet_step (fail)
        go_big_quiet_step (fail)
        go_big_quiet_step (fail)
        go_big_quiet_step (fail)
        go_big_quiet_step (fail)
        go_big_quiet_step (fail)
        go_big_quiet_step (fail)
        go_big_quiet_step (fail)
        go_big_quiet_step (fail)
        go_big_quiet_step (fail)
        go_big_quiet_step (fail)
        go_big_quiet_step (fail)
        go_big_quiet_step (fail)
        go_big_quiet_step (fail)
        go_big_quiet_step (fail)
        go_big_quiet_step (fail)
        go_big_quiet_step (fail)
        go_big_quiet_step (fail)
        go_big_quiet_step (fail)
        go_big_quiet_step (fail)
        go_big_quiet_step (fail)
        go_big_quiet_step (fail)
        go_big_quiet_step (fail)
        go_big_quiet_step (fail)
        go_big_quiet_step (fail)
        refine wpQuiet_nil ?_
        rintro _ ⟨p, rfl⟩
        have hb := below_regrown wr p.d p.os
        clear k1 k2
        generalize grow (redrawn wr p.d) p.os = w2 at *
        replace hw := Below.after hw hb
        clear hb
        go_wp2
        go_roundw
        case rel => exact ⟨k + 1, by omega, by go_num, hw⟩
        case measure => simp [intOf]; omega
      · rw [hhigh k hin hlt] at h1
        have hd2 : decide ((k : Int) < (len : Int)) = false := by simp; omega
        have hd3 : decide (len ≤ k) = true := decide_eq_true (by omega)
        have k1 : ∀ p : Regrown, (grow (redrawn wr p.d) p.os).cell? ⟨g, k, none⟩ = some (.int .u8 (171 + ((k : Int) - len) % 60)) := fun p => cell_regrown h1 p.d p.os
        clear h1 hall hc hlow hhigh
        go_wp2
        refine wp_region_quiet_below (by kernel_rfl) (by kernel_rfl) ?_
        go_big_quiet_step (fail)
        go_big_quiet_step (fail)
        go_big_quiet_step (fail)
        go_big_quiet_step (fail)
        go_big_quiet_step (fail)
        go_big_quiet_step (fail)
        go_big_quiet_step (fail)
        go_big_quiet_step (fail)
        go_big_quiet_step (fail)
        go_big_quiet_step (fail)
        go_big_quiet_step (fail)
        go_big_quiet_step (fail)
        go_big_quiet_step (fail)
        go_big_quiet_step (fail)
        go_big_quiet_step (fail)
        go_big_quiet_step (fail)
        go_big_quiet_step (fail)
        go_big_quiet_step (fail)
        go_big_quiet_step (fail)
        go_big_quiet_step (fail)
        go_big_quiet_step (fail)
        go_big_quiet_step (fail)
        go_big_quiet_step (fail)
        go_big_quiet_step (fail)
        go_big_quiet_step (fail)
        go_big_quiet_step (fail)
        go_big_quiet_step (fail)
        go_big_quiet_step (fail)
        go_big_quiet_step (fail)
        go_big_quiet_step (fail)
        go_big_quiet_step (fail)
        go_big_quiet_step (fail)
        go_big_quiet_step (fail)
        go_big_quiet_step (fail)
        go_big_quiet_step (fail)
        refine wpQuiet_nil ?_
        rintro _ ⟨p, rfl⟩
        have hb := below_regrown wr p.d p.os
        clear k1
        generalize grow (redrawn wr p.d) p.os = w2 at *
        replace hw := Below.after hw hb
        clear hb
        go_wp2
        go_roundw
        case rel => exact ⟨k + 1, by omega, by go_num, hw⟩
        case measure => simp [intOf]; omega
    · obtain rfl : k = len + 80 := by omega
      have hd : decide (((len + 80 : Nat) : Int) < (len : Int) + 80) = false := by simp
      go_wp2
      go_ret
      exact ⟨rfl, hw⟩
/-- Bytes of the data, with their bounds. -/
def BysB (W : World) (v : Value) (bs : List B) : Prop := Bys W v (bl bs) ∧ bs.length ≤ 140737488355000 ∧ (∀ a l c, v = .slice a l c → a = none → c = 0)
theorem BysB.keep {W W' : World} {v : Value} {bs : List B} (h : BysB W v bs) (hb : Below W.heap.size W W') : BysB W' v bs := ⟨h.1.keep hb, h.2⟩
/-- A list of its own. -/
def Own (W : World) (b : Nat) (v : Value) (d : List B) : Prop := W.ownsRow b 5 1 v d.length ((bl d).map (Value.int .u8))
/-- A byte of a list. -/
def gb (l : List B) (i : Nat) : B := l.getD i 0#8
/-- Bytes at the head of a row. -/
theorem trow_cell {W : World} {g : Nat} {l : List B} {T : Array Value} {t : TypeId} (hg : W.heap[g]? = some (.cells ((irow .u8 (bl (l))) ++ T) t (0, 0))) {j : Nat} (hj : j < l.length) : W.cell? ⟨g, j, none⟩ = some (.int .u8 (bv (gb l j))) := by
  rw [cell_of_row W g j _ t (0, 0) hg, Array.getElem?_append_left (by rw [irow_size, bl_len]; exact hj)]
  exact brow_at l j hj
theorem own_row {W : World} {b : Nat} {v : Value} {d : List B} (h : Own W b v d) (hd : 0 < d.length) : ∃ g cap T, v = .slice (some ⟨g, 0, none⟩) d.length cap ∧ b ≤ g ∧ W.heap[g]? = some (.cells ((irow .u8 (bl (d))) ++ T) 5 (0, 0)) ∧ d.length ≤ cap ∧ cap ≤ maxLen ∧ ((irow .u8 (bl (d))) ++ T).size = cap := by
  obtain ⟨hx, ⟨rfl, h0⟩ | ⟨g, cap, cur, rfl, hb, hg, hn, hm, hs, ht⟩⟩ := h
  · omega
  · simp only [Nat.mul_one] at hs ht
    have hcur : cur = (irow .u8 (bl (d))) ++ (cur.toList.drop d.length).toArray := by
      apply Array.ext'
      rw [Array.toList_append, List.toList_toArray]
      conv => lhs; rw [← List.take_append_drop d.length cur.toList]
      rw [ht]
      simp [irow]
    refine ⟨g, cap, (cur.toList.drop d.length).toArray, rfl, hb, by rw [← hcur]; exact hg, hn, hm, by rw [← hcur]; exact hs⟩
theorem Own.keep {W V : World} {b : Nat} {v : Value} {d : List B} (h : Own W b v d) (hb : Below W.heap.size W V) : Own V b v d := by
  obtain ⟨h1, h2 | ⟨g, cap, cur, rfl, hb2, hg, h3⟩⟩ := h
  · exact ⟨h1, .inl h2⟩
  · exact ⟨h1, .inr ⟨g, cap, cur, rfl, hb2, Go.Proofs.Ytnbkdlfkacbfjaa.keep hb hg, h3⟩⟩
theorem Own.bys {W : World} {b : Nat} {v : Value} {d : List B} (h : Own W b v d) : Bys W v (bl d) := by
  rcases Nat.eq_zero_or_pos d.length with h0 | h0
  · obtain rfl : d = [] := List.length_eq_zero_iff.1 h0
    obtain ⟨ao, cap, rfl⟩ := slen_own h
    exact ⟨ao, cap, rfl, by decide, fun j hj => by simp [bl] at hj, bl_bnd _⟩
  · obtain ⟨g, cap, T, rfl, _, hg, hn, hm, _⟩ := own_row h h0
    refine ⟨some ⟨g, 0, none⟩, cap, by rw [bl_len], by rw [bl_len]; unfold maxLen at hm; omega, fun j hj => ?_, bl_bnd _⟩
    rw [bl_len] at hj
    refine ⟨g, 0, rfl, lt_of_row hg, ?_⟩
    rw [Nat.zero_add, bl_get]
    exact trow_cell hg hj
theorem Own.block {W : World} {b : Nat} {v : Value} {d : List B} (h : Own W b v d) (hv : v ≠ .slice none 0 0) : ∃ g cap cur, v = .slice (some ⟨g, 0, none⟩) d.length cap ∧ b ≤ g ∧ W.heap[g]? = some (.cells cur 5 (0, 0)) ∧ d.length ≤ cap ∧ cap ≤ maxLen ∧ cur.size = cap := by
  obtain ⟨h1, ⟨h2, _⟩ | ⟨g, cap, cur, rfl, hb2, hg, hn, hm, hs, _⟩⟩ := h
  · exact absurd h2 hv
  · exact ⟨g, cap, cur, rfl, hb2, hg, hn, hm, by rw [hs, Nat.mul_one]⟩
theorem Own.low {W : World} {b : Nat} {v : Value} {d : List B} (h : Own W b v d) : ∀ g l c, v = .slice (some ⟨g, 0, none⟩) l c → g < W.heap.size := by
  intro g l c hv
  obtain ⟨h1, ⟨rfl, _⟩ | ⟨g', cap, cur, rfl, hb2, hr, h3⟩⟩ := h
  · cases hv
  · cases hv; exact lt_of_row hr
theorem Own.grown {W V : World} {b gx : Nat} {v : Value} {d : List B} (h : Own W b v d) (hg : W.grownBy V (some gx)) (hx : ∀ g l c, v = .slice (some ⟨g, 0, none⟩) l c → g ≠ gx) : Own V b v d := by
  obtain ⟨h1, h2 | ⟨g, cap, cur, rfl, hb2, hr, h3⟩⟩ := h
  · exact ⟨h1, .inl h2⟩
  · exact ⟨h1, .inr ⟨g, cap, cur, rfl, hb2, (hg.block g (lt_of_row hr) (fun e => hx g _ _ rfl (Option.some.inj e))).trans hr, h3⟩⟩
theorem ex1 {f : FuncId} {args : Array Value} {w : World} {v : Value} {Bp : World → Prop} (h : Calls Try.prog f args w fun e w' => e = .returned v ∧ Bp w') : Calls Try.prog f args w fun e w' => ∃ v', e = .returned v' ∧ v' = v ∧ Bp w' := h.mono fun _ _ ⟨a, b⟩ => ⟨v, a, rfl, b⟩
theorem own_low {W : World} {b : Nat} {v : Value} {d : List B} (h : Own W b v d) : ∀ k, v.ownBlock = some k → b ≤ k := by
  obtain ⟨h1, ⟨rfl, _⟩ | ⟨g, cap, cur, rfl, hb, _⟩⟩ := h
  · intro k hk; cases hk
  · intro k hk
    have : g = k := by simpa [Value.ownBlock] using hk
    omega
theorem Own.bysB {W : World} {b : Nat} {v : Value} {d : List B} (h : Own W b v d) (hl : d.length ≤ 140737488355000) : BysB W v d := by
  refine ⟨h.bys, hl, fun a l c hv hn => ?_⟩
  obtain ⟨h1, ⟨rfl, _⟩ | ⟨g, cap, cur, rfl, hb, _⟩⟩ := h
  · cases hv; rfl
  · cases hv; cases hn
theorem own_high {W : World} {b : Nat} {v : Value} {d : List B} (h : Own W b v d) : ∀ k, v.ownBlock = some k → k < W.heap.size := by
  obtain ⟨h1, ⟨rfl, _⟩ | ⟨g, cap, cur, rfl, hb, hg, _⟩⟩ := h
  · intro k hk; cases hk
  · intro k hk
    have : g = k := by simpa [Value.ownBlock] using hk
    have := lt_of_row hg
    omega
theorem Own.grown2 {W V : World} {b : Nat} {v : Value} {d : List B} {ob : Option Nat} (h : Own W b v d) (hg : W.grownBy V ob) (hx : ∀ k, ob = some k → k < b) : Own V b v d := by
  obtain ⟨h1, h2 | ⟨g, cap, cur, rfl, hb2, hr, h3⟩⟩ := h
  · exact ⟨h1, .inl h2⟩
  · exact ⟨h1, .inr ⟨g, cap, cur, rfl, hb2, (hg.block g (lt_of_row hr) (fun e => by have := hx g e.symm; omega)).trans hr, h3⟩⟩
theorem bys_one (W : World) (x : B) : BysB (W.alloc (.cells #[.int .u8 (bv x)] 5)) (.slice (some ⟨W.heap.size, 0, none⟩) 1 1) [x] := by
  have hr : (W.alloc (.cells #[.int .u8 (bv x)] 5)).heap[W.heap.size]? = some (.cells #[.int .u8 (bv x)] 5 (0, 0)) := hp1_0 W _
  refine ⟨⟨some ⟨W.heap.size, 0, none⟩, 1, rfl, by simp [bl], fun j hj => ⟨W.heap.size, 0, rfl, lt_of_row hr, ?_⟩, bl_bnd _⟩, by simp, fun a l c h h2 => by cases h; cases h2⟩
  obtain rfl : j = 0 := by rw [bl_len, List.length_singleton] at hj; omega
  rw [cell_of_row _ W.heap.size _ _ 5 (0, 0) hr]
  rfl
theorem own_nil (W : World) : Own (W.alloc (.cells #[] 5)) W.heap.size (.slice (some ⟨W.heap.size, 0, none⟩) 0 0) [] := ⟨rfl, .inr ⟨W.heap.size, 0, #[], rfl, Nat.le_refl _, hp1_0 _ _, Nat.le_refl _, by decide, rfl, by simp [bl]⟩⟩
section
variable {P : Program} {ops : Array Oper} {Q : Exit → Act → World → Prop} {md : Region.Mode} {S : World → Prop}
/-- The one operation that may come up, where S is kept. -/
theorem wpAnyH_one {k : Nat} {o : Oper} {fuel : Nat} {listed : Array Bool} {a : Act} {w : World} (hr : Region.ready md ops listed = [k]) (hi : ops[k]? = some o) (hw : Region.wanted o (yielded ops a.tmps) = true)
    (h : ∀ K : Act → World → Prop, (∀ a' w', S w' → wpAnyH P md ops Q S fuel (listed.setIfInBounds k true) a' w' → K a' w') → o.wp P a w K Q) : wpAnyH P md ops Q S (fuel + 1) listed a w := by
  refine wpAnyH_all hr (by simp) (fun i hi' => ?_)
  obtain rfl : i = k := by simpa using hi'
  unfold wpOp
  simp only [hi, hw, if_true]
  exact .inl (h _ (fun a' w' hS hn => ⟨hS, hn⟩))
/-- Bytes laid behind a list of one's own. -/
theorem wp_append_bytes {o : Oper} {a : Act} {w : World} {K : Act → World → Prop} {Q : Exit → Act → World → Prop} (s x : Operand) (ho : o.op = .call { callee := .builtin .append, args := #[s, x], argTypes := #[22, 22] }) (base : Nat) (v : Value) (d : List B) (hs : a.eval s = v) (hO : Own w base v d) (y : Value) (e : List B) (hx : a.eval x = y) (hE : BysB w y e) (hlen : d.length + e.length ≤ 140737488355328) (hbase : base ≤ w.heap.size)
    (h : ∀ v' w', Own w' base v' (d ++ e) → w.grownBy w' v.ownBlock → K (a.put o.dst v') w') : o.wp Try.prog a w K Q := by
  obtain ⟨i0, hi, hz0, hz1, hz2⟩ := info8
  obtain ⟨⟨ao, cap, rfl, _, hc, _⟩, _, hnil⟩ := hE
  rw [bl_len] at hx hnil hc
  have hfin : ∀ v' w', w'.ownsRow base 5 1 v' (d.length + e.length) ((bl d).map (Value.int .u8) ++ (bl e).map (Value.int .u8)) → w.grownBy w' v.ownBlock → K (a.put o.dst v') w' := fun v' w' h1 h2 => h v' w' (by
    unfold Own
    rw [List.length_append, bl, List.map_append, List.map_append]
    exact h1) h2
  cases ao with
  | some ad =>
    refine wp_append_own w s x 22 ho base 5 i0 (.int .u8 0) 1 1 Try.underlying22 hi hz0 hz1 hz2 rfl (by decide) v d.length ((bl d).map (Value.int .u8)) hs hO ad e.length cap ((bl e).map (Value.int .u8)) hx (by rw [List.length_map, bl_len, Nat.mul_one]) (fun j u hu => ?_) (ints_one .u8 _) (by unfold maxLen; omega) (by omega) hbase (fun v' w' h2 h3 _ => hfin v' w' h2 h3)
    rw [List.getElem?_map] at hu
    obtain ⟨z, hz, rfl⟩ := Option.map_eq_some_iff.1 hu
    have hj : j < e.length := by have := (List.getElem?_eq_some_iff.1 hz).1; rwa [bl_len] at this
    obtain ⟨b, off, he, _, hcell⟩ := hc j hj
    obtain rfl := Option.some.inj he
    rw [addr_add, hcell, List.getD_eq_getElem?_getD, hz]
    rfl
  | none =>
    have hn0 : e.length = 0 := Nat.eq_zero_of_not_pos (fun h0 => by obtain ⟨b, off, he, _⟩ := hc 0 h0; cases he)
    obtain rfl := hnil _ _ _ rfl rfl
    have he0 : e = [] := List.length_eq_zero_iff.1 hn0
    subst he0
    have hrun := run_append_owned_none (P := Try.prog) w base 22 o.type 5 i0 1 Try.underlying22 hi _ d.length _ hO
    unfold Oper.wp
    simp [execOp, ho, resolve, invoke, builtin, hs, hx, hrun, Result.andThen]
    have h_ := hfin v w (by simpa [bl, Own] using hO) (World.grownBy.refl _ _)
    exact h_
end
/-- Bytes laid behind a list of one's own, in a row of operations. -/
theorem wpList_append_B {ops : Array Oper} {rest : List Oper} {o : Oper} {a : Act} {w : World} {Q : Exit → Act → World → Prop} (hgd : o.guard = none) (s x : Operand) (ho : o.op = .call { callee := .builtin .append, args := #[s, x], argTypes := #[22, 22] }) (base : Nat) (v : Value) (d : List B) (hs : a.eval s = v) (hO : Own w base v d) (y : Value) (e : List B) (hx : a.eval x = y) (hE : BysB w y e) (hlen : d.length + e.length ≤ 140737488355328) (hbase : base ≤ w.heap.size)
    (h : ∀ v' w', Own w' base v' (d ++ e) → w.grownBy w' v.ownBlock → wpList Try.prog ops Q rest (a.put o.dst v') w') : wpList Try.prog ops Q (o :: rest) a w :=
  wpList_plain hgd fun _ hK => wp_append_bytes s x ho base v d hs hO y e hx hE hlen hbase (fun v' w' h1 h2 => hK _ _ (h v' w' h1 h2))
theorem own_down {W : World} {b c : Nat} {v : Value} {d : List B} (h : Own W b v d) (hc : c ≤ b) : Own W c v d := by
  obtain ⟨q1, q2 | ⟨g1, cap1, cur, hv, hbg, hq⟩⟩ := h
  · exact ⟨q1, .inl q2⟩
  · exact ⟨q1, .inr ⟨g1, cap1, cur, hv, Nat.le_trans hc hbg, hq⟩⟩
theorem own_capB {W : World} {b : Nat} {v : Value} {d : List B} (h : Own W b v d) : ∀ a l c, v = .slice a l c → l ≤ c := by
  obtain ⟨q1, q2 | ⟨g1, cap1, cur, hv, hbg, hq⟩⟩ := h
  · intro a l c e
    obtain ⟨hv, _⟩ := q2
    rw [hv] at e
    cases e
    exact Nat.le_refl _
  · intro a l c e
    rw [hv] at e
    cases e
    exact hq.2.1
set_option maxHeartbeats 2000000 in
theorem a_clone2 (d : List B) (w : World) (v : Value) (hB : BysB w v d) : Calls Try.prog 11 #[v] w fun e w' => ∃ u, e = .returned u ∧ (Own w' w.heap.size u d ∧ (∀ ad l c, v = .slice (some ad) l c → u ≠ .slice none 0 0)) ∧ Below w.heap.size w w' := by
  obtain ⟨⟨ao, cap, rfl, hl, hc, hz⟩, hlen, hnil⟩ := hB
  obtain ⟨i0, hi, hz0, hz1, hz2⟩ := info8
  rw [bl_len] at *
  cases ao with
  | none =>
    obtain rfl := hnil none _ _ rfl rfl
    have h0 : d.length = 0 := by
      rcases Nat.eq_zero_or_pos d.length with h | h
      · exact h
      · obtain ⟨b, off, e, _⟩ := hc 0 h
        cases e
    obtain rfl : d = [] := List.length_eq_zero_iff.1 h0
    clear hc
    have heq : ∀ W : World, (binOp .eql 22 (.slice none 0 0) (.slice none 0 0)).run Try.prog W = .ok (.bool true) W := fun W => by kernel_rfl
    go_enter Try.func11, Try.ntmps11
    go_wp2
    go_ret
    exact ⟨_, rfl, ⟨⟨rfl, .inl ⟨rfl, rfl⟩⟩, fun ad l c h => by cases h⟩, Below.refl _ _⟩
  | some ad =>
    have heq : ∀ W : World, (binOp .eql 22 (.slice (some ad) d.length cap) (.slice none 0 0)).run Try.prog W = .ok (.bool false) W := fun W => by kernel_rfl
    have hcell : ∀ W : World, Below w.heap.size w W → ∀ j u, ((bl d).map (Value.int .u8))[j]? = some u → W.cell? (ad.add j) = some u := fun W hW j u hu => by
      have hj : j < d.length := by
        have := (List.getElem?_eq_some_iff.1 hu).1
        simpa [bl_len] using this
      obtain ⟨b, off, e', hb, hcl⟩ := hc j hj
      obtain rfl : ad = ⟨b, off, none⟩ := Option.some.inj e'
      have : u = .int .u8 ((bl d).getD j 0) := by
        have hj' : j < (bl d).length := by rw [bl_len]; exact hj
        simp only [List.getElem?_map, List.getElem?_eq_getElem hj', Option.map_some, Option.some.injEq] at hu
        rw [← hu, List.getD_eq_getElem?_getD, List.getElem?_eq_getElem hj']; rfl
      rw [this, addr_add]
      exact (hW.cell hb).trans hcl
    replace hcell := hide hcell
    clear hc
    go_enter Try.func11, Try.ntmps11
    have hb0 : Below w.heap.size w (w.alloc (.cells #[] 5)) := (Below.refl _ _).alloc (Nat.le_refl _) _
    have hown0 : (w.alloc (.cells #[] 5)).ownsRow w.heap.size 5 1 (.slice (some ⟨w.heap.size, 0, none⟩) 0 0) 0 [] := ⟨rfl, .inr ⟨w.heap.size, 0, #[], rfl, Nat.le_refl _, hp1_0 w _, Nat.le_refl _, by decide, rfl, rfl⟩⟩
    go_wp2_with (at_builtin; refine wpList_append_own _ rfl (.tmp 5) (.tmp 6) 22 rfl w.heap.size 5 i0 (.int .u8 0) 1 1 Try.underlying22 hi hz0 hz1 hz2 rfl (by decide) (.slice (some ⟨w.heap.size, 0, none⟩) 0 0) 0 [] rfl hown0 ad d.length cap ((bl d).map (Value.int .u8)) rfl (by simp [bl_len]) (hcell.out _ hb0) (ints_one .u8 _) (by unfold maxLen; omega) (by omega) hb0.size ?_)
    intro v' w1 hown2 hgrow hnn
    have hn2 : Hid (v' ≠ .slice none 0 0) := hide hnn
    clear hnn
    have hw := hb0.grown hgrow hb0.size (fun k h => (hown0.lt k h).1)
    clear hgrow
    obtain ⟨ao', cap', rfl⟩ := slen_own hown2
    go_wp2
    go_ret
    refine ⟨_, rfl, ⟨?_, fun _ _ _ _ => hn2.out⟩, hw⟩
    unfold Own
    simpa using hown2
theorem a_clone (d : List B) (w : World) (v : Value) (hB : BysB w v d) : Calls Try.prog 11 #[v] w fun e w' => ∃ u, e = .returned u ∧ Own w' w.heap.size u d ∧ Below w.heap.size w w' := (a_clone2 d w v hB).mono fun _ _ ⟨u, h1, h2, h3⟩ => ⟨u, h1, h2.1, h3⟩
theorem bv_of {z : Int} (h : 0 ≤ z ∧ z < 256) : ∃ x : B, z = bv x := by
  obtain ⟨n, rfl⟩ := Int.eq_ofNat_of_zero_le h.1
  exact ⟨BitVec.ofNat 8 n, by unfold bv; rw [BitVec.toNat_ofNat]; omega⟩
theorem bl_of : ∀ (l : List Int), (∀ z ∈ l, 0 ≤ z ∧ z < 256) → ∃ bs : List B, l = bl bs ∧ bs.length = l.length
  | [], _ => ⟨[], rfl, rfl⟩
  | z :: r, h => by
    obtain ⟨x, rfl⟩ := bv_of (h z (by simp))
    obtain ⟨bs, rfl, e⟩ := bl_of r (fun y hy => h y (by simp [hy]))
    exact ⟨x :: bs, rfl, by simp [e]⟩
end Go.Proofs.Ytnbkdlfkacbfjaa
