import Derived.Test.YtmldmlbmfbdjoaaS0
import Derived.OwnWalk
import Derived.Test.YtmldmlbmfbdjoaaS1
import Derived.Test.YtmldmlbmfbdjoaaProg
import Derived.WalkKit
import Derived.WalkSpells
import Derived.WalkLawsBesides
import Derived.Lib.QuietBelow
import Derived.BigQuiet
namespace Go.Proofs.Ytmldmlbmfbdjoaa
open Go Go.RowKit Go.Sort
attribute [local go_sem] setCell_drewN alloc_drewN

/-- How long a slice is. -/
def slen : Value → Nat
  | .slice _ l _ => l
  | _ => 0
theorem slen_own {W : World} {b : Nat} {T : TypeId} {sz : Nat} {v : Value} {n : Nat} {xs : List Value} (h : W.ownsRow b T sz v n xs) : ∃ ao cap, v = .slice ao n cap := by
  obtain ⟨_, ⟨rfl, rfl⟩ | ⟨g, cap, cur, rfl, _⟩⟩ := h
  · exact ⟨_, _, rfl⟩
  · exact ⟨_, _, rfl⟩
theorem info8 : ∃ i, Try.prog.info? 5 = some i ∧ i.zero = some (.int .u8 0) ∧ i.size = 1 ∧ i.bytes = 1 := ⟨_, rfl, rfl, rfl, rfl⟩
theorem new_cell (wr : World) (x : Int) : ∀ j u, [Value.int .u8 x][j]? = some u → (wr.alloc (.cells #[.int .u8 x] 5)).cell? ((⟨wr.heap.size, 0, none⟩ : Addr).add j) = some u := by
  intro j u hu
  have hj : j = 0 := by
    have := (List.getElem?_eq_some_iff.1 hu).1
    simp at this
    exact this
  subst hj
  simp at hu
  subst hu
  rw [addr_add]
  have hg : (wr.alloc (.cells #[.int .u8 x] 5)).heap[wr.heap.size]? = some (.cells #[.int .u8 x] 5 (0, 0)) := hp1_0 wr _
  simp only [World.cell?, hg]
  rfl

/-- An append whose row is either the old one or a new block. -/
theorem wpList_append_two {P : Program} (w : World) {ops : Array Oper} {rest : List Oper} {o : Oper} {a : Act} {Q : Exit → Act → World → Prop} (hgd : o.guard = none) (s x : Operand) (t : TypeId)
    (ho : o.op = .call { callee := .builtin .append, args := #[s, x], argTypes := #[t, t] })
    (base : Nat) (e : TypeId) (i : TypeInfo) (z : Value) (ht : P.underlying t = some (.slice e)) (hi : P.info? e = some i) (hz : i.zero = some z)
    (hsize : i.size = 1) (hby : i.bytes = 1) (hzs : z.cells.size = 1)
    (g n cap : Nat) (xs : List Value) (hs : a.eval s = .slice (some ⟨g, 0, none⟩) n cap) (hown : w.ownsRow base e 1 (.slice (some ⟨g, 0, none⟩) n cap) n xs)
    (ad : Addr) (m c : Nat) (news : List Value) (hx : a.eval x = .slice (some ad) m c) (hl : news.length = m * 1) (hnews : ∀ j u, news[j]? = some u → w.cell? (ad.add j) = some u) (h1 : ∀ u ∈ news, u.oneCell' = true)
    (h63 : n + m ≤ maxLen) (hbytes : (n + m) * 1 ≤ 140737488355328) (hbase : base ≤ w.heap.size)
    (h : ∀ g' cap' w', w'.ownsRow base e 1 (.slice (some ⟨g', 0, none⟩) (n + m) cap') (n + m) (xs ++ news) → w.grownBy w' (some g) → (g' = g ∨ g' = w.heap.size) → wpList P ops Q rest (a.put o.dst (.slice (some ⟨g', 0, none⟩) (n + m) cap')) w') : wpList P ops Q (o :: rest) a w := by
  refine wpList_plain hgd fun K hK => ?_
  obtain ⟨v', w', hr, h2, h3, _⟩ := run_append_own (P := P) w base t o.type e i z 1 1 ht hi hz hsize hby hzs (by decide) _ n xs hown ad m c news hl hnews h1 h63 hbytes hbase
  have key : ∃ g' cap', v' = .slice (some ⟨g', 0, none⟩) (n + m) cap' ∧ (g' = g ∨ g' = w.heap.size) := by
    rcases hown.2 with ⟨hv, _⟩ | ⟨g1, cap1, cur, hv, hbg, hg, hnc, hcm, hcs, htake⟩
    · cases hv
    · cases hv
      by_cases hroom : n + m ≤ cap
      · have hr2 := run_append_room (P := P) w t o.type e i ht hi g n cap cur hg ad m c news (by rw [hsize]; exact hl) hnews h1 hroom (by rw [hsize, hl, hcs]; omega)
        have := hr.symm.trans hr2
        injection this with e1 e2
        exact ⟨g, cap, e1, .inl rfl⟩
      · have holds : ∀ j u, xs[j]? = some u → w.cell? ((⟨g, 0, none⟩ : Addr).add j) = some u := hown.cells (g := g) rfl
        have hr2 := run_append_grow (P := P) w t o.type e i z ht hi hz ⟨g, 0, none⟩ n cap xs (by rw [hsize]; exact hown.1) holds ad m c news (by rw [hsize]; exact hl) hnews (by omega) (by simp only [maxLen] at h63; omega) (growslice_fits (by omega) (by rw [hby]; exact hbytes))
        have := hr.symm.trans hr2
        injection this with e1 e2
        exact ⟨_, _, e1, .inr rfl⟩
  obtain ⟨g', cap', rfl, hgg⟩ := key
  unfold Oper.wp execOp
  simp only [ho, resolve, invoke, builtin, Sem.run_bind, Sem.run_pure, Result.andThen_ok, List.map_toArray, List.map_cons, List.map_nil, hs, hx, hr]
  exact hK _ _ (h g' cap' w' h2 h3 hgg)
set_option maxHeartbeats 2000000 in
/-- Two slices that say the same. -/
theorem same_any (bs : List Int) (w : World) (u v : Value) (hu : Bys w u bs) (hv : Bys w v bs) : Calls Try.prog 25 #[u, v] w fun e w' => e = .returned (.bool true) ∧ Below w.heap.size w w' := by
  obtain ⟨ao, cap, rfl, hl, hc, hz⟩ := hu
  obtain ⟨ao', cap', rfl, _, hc', _⟩ := hv
  generalize hlen : bs.length = len at *
  go_enter Try.func25, Try.ntmps25
  go_wp2
  go_loopw [5] (fun i wr => ∃ k : Nat, k ≤ len ∧ i = .int .i64 k ∧ Below w.heap.size w wr) (fun i _ => len - (intOf i).toNat)
  case atStart => exact ⟨0, by omega, rfl, Below.refl _ _⟩
  case round =>
    obtain ⟨k, hk, rfl, hw⟩ := hrel
    by_cases hlt : k < len
    · have hd : decide ((k : Int) < (len : Int)) = true := by simp; omega
      obtain ⟨b, off, rfl, hb1, hb2⟩ := hc k hlt
      obtain ⟨b', off', rfl, hb1', hb2'⟩ := hc' k hlt
      replace hb2 := (hw.cell (p := ⟨b, off + k, none⟩) hb1).trans hb2
      replace hb2' := (hw.cell (p := ⟨b', off' + k, none⟩) hb1').trans hb2'
      generalize bs.getD k 0 = z at *
      clear hc hc'
      go_wp2
      have k1 : ∀ p : Regrown, (grow (redrawn wr p.d) p.os).cell? ⟨b, off + k, none⟩ = some (.int .u8 z) := fun p => cell_regrown (hb2) p.d p.os
      have k2 : ∀ p : Regrown, (grow (redrawn wr p.d) p.os).cell? ⟨b', off' + k, none⟩ = some (.int .u8 z) := fun p => cell_regrown (hb2') p.d p.os
      refine wp_region_quiet_below (by kernel_rfl) (by kernel_rfl) ?_
      go_big_quiet_step (fail)
      go_big_quiet_step (fail)
      go_big_quiet_step (fail)
      go_big_quiet_step (fail)
      go_big_quiet_step (fail)
      go_big_quiet_step (fail)
      go_big_quiet_step (fail)
      go_big_quiet_step (fail)
      go_big_quiet_step (fail)
      refine wpQuiet_nil ?_
      rintro _ ⟨p, rfl⟩
      have hb := below_regrown wr p.d p.os
      generalize grow (redrawn wr p.d) p.os = w1 at *
      clear k1 k2
      replace hw := Below.after hw hb
      clear hb

      go_wp2
      refine ⟨⟨k + 1, by omega, by go_num, hw⟩, ?_⟩
      simp [intOf]; omega
    · obtain rfl : k = len := by omega
      have hd : decide ((k : Int) < (k : Int)) = false := by simp
      go_wp2
      go_ret
      exact ⟨rfl, hw⟩
theorem grown_trans {a b c : World} {row : Option Nat} {g : Nat} (h : a.grownBy b (some g)) (h2 : b.grownBy c row) (hr : row = none ∨ row = some g ∨ ∃ k, row = some k ∧ a.heap.size ≤ k) : a.grownBy c (some g) := by
  refine ⟨h2.os.trans h.os, h2.tape.trans h.tape, h2.output.trans h.output, Nat.le_trans h.size h2.size, fun k hk hn => ?_⟩
  have h3 := h.size
  refine (h2.block k (by omega) ?_).trans (h.block k hk hn)
  rcases hr with rfl | rfl | ⟨q, rfl, hq⟩
  · simp
  · exact hn
  · intro e; injection e with e; omega
theorem grown_setCell {a b : World} {g j : Nat} {v : Value} (h : a.grownBy b (some g)) : a.grownBy (b.setCell ⟨g, j, none⟩ v) (some g) := by
  refine ⟨h.os, h.tape, h.output, ?_, fun k hk hn => ?_⟩
  · have e : (b.setCell ⟨g, j, none⟩ v).heap.size = b.heap.size := by simp [World.setCell]
    rw [e]; exact h.size
  · rw [heap_setCell_other b ⟨g, j, none⟩ k v (fun e => hn (by rw [e]))]
    exact h.block k hk hn
set_option maxHeartbeats 2000000 in
/-- All of a list and what lies behind it written over: no other block turns. -/
theorem full_any (g n cap : Nat) (x : Int) (cur : Array Value) (w : World) (hg : w.heap[g]? = some (.cells cur 5 (0, 0))) (hcs : cur.size = cap) (hn : n ≤ cap) (hm : cap ≤ maxLen) (hb : n + 90 ≤ 140737488355328) :
    Calls Try.prog 27 #[.slice (some ⟨g, 0, none⟩) n cap, .int .u8 x] w fun e w' => e = .returned (.tuple #[]) ∧ w.grownBy w' (some g) := by
  obtain ⟨i0, hi, hz0, hz1, hz2⟩ := info8
  have hgl := lt_of_row hg
  go_enter Try.func27, Try.ntmps27
  go_wp2
  go_loopw [4] (fun i wr => ∃ k : Nat, k ≤ n ∧ i = .int .i64 k ∧ (∃ cur' : Array Value, cur'.size = cap ∧ wr.heap[g]? = some (.cells cur' 5 (0, 0))) ∧ w.grownBy wr (some g)) (fun i _ => n - (intOf i).toNat)
  case atStart => exact ⟨0, by omega, rfl, ⟨cur, hcs, hg⟩, World.grownBy.refl _ _⟩
  case round =>
    obtain ⟨k, hk, rfl, ⟨cur', hcs', hg'⟩, hw⟩ := hrel
    by_cases hlt : k < n
    · have hd : decide ((k : Int) < (n : Int)) = true := by simp; omega
      have hc : wr.cell? ⟨g, k, none⟩ = some (cur'[k]'(by omega)) := by rw [cell_of_row _ _ _ _ _ _ hg', Array.getElem?_eq_getElem (by omega)]
      have hf := row_frozen hg' k
      have hq := heap_setCell_same wr g k cur' _ (.int .u8 x) hg'
      go_wp2
      refine ⟨⟨k + 1, by omega, by go_num, ⟨_, by rw [Array.size_setIfInBounds]; exact hcs', hq⟩, grown_setCell hw⟩, ?_⟩
      simp [intOf]; omega
    · obtain rfl : k = n := by omega
      have hd : decide ((k : Int) < (k : Int)) = false := by simp
      go_wp2
      go_loopw [0, 5] (fun v i wr => ∃ (j g' c' : Nat) (xs : List Value), j ≤ 90 ∧ i = .int .i64 j ∧ v = .slice (some ⟨g', 0, none⟩) (k + j) c' ∧ wr.ownsRow 0 5 1 (.slice (some ⟨g', 0, none⟩) (k + j) c') (k + j) xs ∧ (g' = g ∨ w.heap.size ≤ g') ∧ w.grownBy wr (some g)) (fun _ i _ => 90 - (intOf i).toNat)
      case atStart =>
        refine ⟨0, g, cap, cur'.toList.take k, by omega, rfl, rfl, ⟨by simp; omega, .inr ⟨g, cap, cur', rfl, Nat.zero_le _, hg', hn, hm, by omega, by simp⟩⟩, .inl rfl, hw⟩
      case round =>
        clear hg' hw hd
        obtain ⟨j, g', c', xs, hj, rfl, rfl, hown, hgg, hw⟩ := hrel
        by_cases hlt2 : j < 90
        · have hd : decide ((j : Int) < 90) = true := by simp; omega
          have hown_ := hown.alloc (.cells #[.int .u8 x] 5)
          go_wp2_with (at_builtin; refine wpList_append_two _ rfl (.tmp 20) (.tmp 22) 43 rfl 0 5 i0 (.int .u8 0) Try.underlying43 hi hz0 hz1 hz2 rfl g' (k + j) c' xs rfl hown_ ⟨wr.heap.size, 0, none⟩ 1 1 [.int .u8 x] rfl rfl (new_cell wr x) (by simp [Value.oneCell']) (by unfold maxLen; omega) (by omega) (Nat.zero_le _) ?_)
          intro g2 c2 w2 hown2 hgrow hg2
          have hws := hw.size
          have hga : w.grownBy (wr.alloc (.cells #[.int .u8 x] 5)) (some g) := grown_trans hw (World.grownBy_alloc wr _ none) (.inl rfl)
          have hgb : w.grownBy w2 (some g) := grown_trans hga hgrow (by rcases hgg with rfl | h; exact .inr (.inl rfl); exact .inr (.inr ⟨_, rfl, h⟩))
          have hg3 : g2 = g ∨ w.heap.size ≤ g2 := by
            rcases hg2 with rfl | rfl
            · exact hgg
            · exact .inr (by omega)
          clear hown hown_ hgrow hga hw hg2
          go_wp2
          refine ⟨⟨j + 1, g2, c2, _, by omega, by go_num, rfl, hown2, hg3, hgb⟩, ?_⟩
          simp [intOf]; omega
        · obtain rfl : j = 90 := by omega
          have hd : decide ((90 : Int) < 90) = false := by decide
          go_wp2
          go_end0
          exact ⟨rfl, hw⟩


/-- The marked room behind what is lent. -/
def marks (k : Nat) : List Int := (List.range k).map fun (i : Nat) => 171 + ((i % 60 : Nat) : Int)
theorem marks_succ (k : Nat) : marks (k + 1) = marks k ++ [171 + ((k % 60 : Nat) : Int)] := by simp [marks, List.range_succ]
set_option maxHeartbeats 2000000 in
theorem lent_walk (bs : List Int) (w : World) (ev : Value) (hB : Bys w ev bs) (hl : bs.length + 80 ≤ 281474976710656) (hnil : ∀ a l c, ev = .slice a l c → a = none → c = 0) : Calls Try.prog 23 #[ev] w fun e w' => ∃ v, e = .returned v ∧ ∃ g, v = .tuple #[.slice (some ⟨g, 0, none⟩) bs.length (bs.length + 80), .slice (some ⟨g, 0, none⟩) (bs.length + 80) (bs.length + 80)] ∧ w.heap.size ≤ g ∧ w'.heap[g]? = some (.cells (irow .u8 (bs ++ marks 80)) 5 (0, 0)) ∧ Below w.heap.size w w' := by
  obtain ⟨ao, cap, rfl, _, hc, hz⟩ := hB
  obtain ⟨i0, hi, hz0, hz1, hz2⟩ := info8
  generalize hlen : bs.length = len at *
  go_enter Try.func23, Try.ntmps23
  go_wp2_with (at_make; refine wpList_make_own _ rfl _ _ 43 rfl w.heap.size 5 i0 (.int .u8 0) 1 Try.underlying43 hi hz0 hz1 _ _ _ (len + 80) rfl rfl (by omega) ?b2 ?b3 (Nat.le_refl _) ?_)
  case b2 => rw [hz2]; omega
  case b3 => unfold maxLen; omega
  intro w0 hown0 hgrow0
  have hnone : ao = none → len = 0 ∧ cap = 0 := by
    intro h
    refine ⟨?_, hnil _ _ _ rfl h⟩
    rcases Nat.eq_zero_or_pos len with e | e
    · exact e
    · obtain ⟨b, off, e', _⟩ := hc 0 e
      rw [h] at e'; cases e'
  have hcell : ∀ ad, ao = some ad → ∀ j u, (bs.map (Value.int .u8))[j]? = some u → w0.cell? (ad.add j) = some u := by
    intro ad had j u hu
    have hj : j < len := by
      have := (List.getElem?_eq_some_iff.1 hu).1
      simpa [hlen] using this
    obtain ⟨b, off, e', hb, hcl⟩ := hc j hj
    obtain rfl : ad = ⟨b, off, none⟩ := Option.some.inj (had.symm.trans e')
    have : u = .int .u8 (bs.getD j 0) := by
      have hj' : j < bs.length := by omega
      simp only [List.getElem?_map, List.getElem?_eq_getElem hj', Option.map_some, Option.some.injEq] at hu
      rw [← hu, List.getD_eq_getElem?_getD, List.getElem?_eq_getElem hj']; rfl
    rw [this]
    rw [addr_add]
    exact hgrow0.cell (a := ⟨b, off + j, none⟩) hcl (fun e => by cases e)
  go_wp2_with (at_builtin; refine wpList_append_fits_any _ rfl (.tmp 10) (.tmp 11) 43 rfl w.heap.size 5 i0 1 Try.underlying43 hi hz1 w.heap.size 0 (len + 80) [] rfl hown0 ao len cap (bs.map (Value.int .u8)) rfl (by simp [hlen]) hnone hcell (ints_one .u8 bs) (by omega) ?_)
  intro w1 hown1 hgrow1
  have hw : Below w.heap.size w w1 := ((Below.refl _ _).grown hgrow0 (Nat.le_refl _) (fun k h => by cases h)).grown hgrow1 hgrow0.size (fun k h => by cases h; exact Nat.le_refl _)
  clear hcell hown0 hgrow0 hgrow1
  go_wp2
  go_loopw [4, 5] (fun s i wr => ∃ k : Nat, k ≤ 80 ∧ i = .int .i64 k ∧ s = .slice (some ⟨w.heap.size, 0, none⟩) (len + k) (len + 80) ∧ wr.ownsRow w.heap.size 5 1 (.slice (some ⟨w.heap.size, 0, none⟩) (len + k) (len + 80)) (len + k) ((bs ++ marks k).map (Value.int .u8)) ∧ Below w.heap.size w wr) (fun _ i _ => 80 - (intOf i).toNat)
  case atStart => exact ⟨0, by omega, rfl, by simp, by simpa [marks] using hown1, hw⟩
  case round =>
    obtain ⟨k, hk, rfl, rfl, hown, hw⟩ := hrel
    by_cases hlt : k < 80
    · have hd : decide ((k : Int) < 80) = true := by simp; omega
      have hown' : (wr.alloc (.cells #[.int .u8 (171 + (k : Int) % 60)] 5)).ownsRow w.heap.size 5 1 (.slice (some ⟨w.heap.size, 0, none⟩) (len + k) (len + 80)) (len + k) ((bs ++ marks k).map (Value.int .u8)) := hown.kept (World.grownBy_alloc wr _ none) (.inr (by simp [Value.ownBlock]))
      have hnew : ∀ ad, some (⟨wr.heap.size, 0, none⟩ : Addr) = some ad → ∀ j u, [Value.int .u8 (171 + (k : Int) % 60)][j]? = some u → (wr.alloc (.cells #[.int .u8 (171 + (k : Int) % 60)] 5)).cell? (ad.add j) = some u := by
        intro ad had j u hu
        obtain rfl := Option.some.inj had
        have hj : j = 0 := by
          have := (List.getElem?_eq_some_iff.1 hu).1
          simp at this
          exact this
        subst hj
        simp at hu
        subst hu
        rw [addr_add]
        have hg : (wr.alloc (.cells #[.int .u8 (171 + (k : Int) % 60)] 5)).heap[wr.heap.size]? = some (.cells #[.int .u8 (171 + (k : Int) % 60)] 5 (0, 0)) := hp1_0 wr _
        simp only [World.cell?, hg]
        rfl
      go_wp2_with (at_builtin; refine wpList_append_fits_any _ rfl (.tmp 17) (.tmp 22) 43 rfl w.heap.size 5 i0 1 Try.underlying43 hi hz1 w.heap.size (len + k) (len + 80) _ rfl hown' (some ⟨wr.heap.size, 0, none⟩) 1 1 [.int .u8 (171 + (k : Int) % 60)] rfl rfl (by intro h; cases h) hnew (by simp [Value.oneCell']) (by omega) ?_)
      intro w2 hown2 hgrow2
      have hw2 : Below w.heap.size w w2 := (hw.alloc hw.size _).grown hgrow2 (by simp; have := hw.size; omega) (fun k h => by cases h; exact Nat.le_refl _)
      replace hown2 : w2.ownsRow w.heap.size 5 1 (.slice (some ⟨w.heap.size, 0, none⟩) (len + (k + 1)) (len + 80)) (len + (k + 1)) ((bs ++ marks (k + 1)).map (Value.int .u8)) := by rw [marks_succ, ← Nat.add_assoc]; simpa using hown2
      clear hown hown' hnew hgrow2 hw
      go_wp2
      go_roundw
      case rel => exact ⟨k + 1, by omega, by go_num, rfl, hown2, hw2⟩
      case measure => simp [intOf]; omega
    · obtain rfl : k = 80 := by omega
      have hd : decide ((80 : Int) < 80) = false := by decide
      have hrow : wr.heap[w.heap.size]? = some (.cells (irow .u8 (bs ++ marks 80)) 5 (0, 0)) := by
        obtain ⟨hlx, h | ⟨g, cp, cur, hv, _, hg, _, _, hs, ht⟩⟩ := hown
        · cases h.1
        · cases hv
          rw [hg]
          have : cur = irow .u8 (bs ++ marks 80) := by
            apply Array.ext'
            rw [irow, ← ht]
            symm
            apply List.take_of_length_le
            rw [Array.length_toList]
            omega
          rw [this]
      clear hown
      go_wp2
      go_ret2
      exact ⟨_, rfl, _, rfl, Nat.le_refl _, hrow, hw⟩

theorem at_low (bs : List Int) (k : Nat) (hk : k < bs.length) : (bs ++ marks 80).getD k 0 = bs.getD k 0 := by
  simp [List.getD_eq_getElem?_getD, List.getElem?_append_left hk]
theorem at_high (bs : List Int) (k : Nat) (hk : ¬ k < bs.length) (hu : k < bs.length + 80) : (bs ++ marks 80).getD k 0 = 171 + ((k : Int) - bs.length) % 60 := by
  have : k - bs.length < 80 := by omega
  rw [List.getD_eq_getElem?_getD, List.getElem?_append_right (by omega)]
  simp [marks, this]
  omega
set_option maxHeartbeats 2000000 in
theorem kept_walk (bs : List Int) (g : Nat) (w : World) (ev : Value) (hB : Bys w ev bs) (hl : bs.length + 80 ≤ 281474976710656) (hg : w.heap[g]? = some (.cells (irow .u8 (bs ++ marks 80)) 5 (0, 0))) : Calls Try.prog 26 #[.slice (some ⟨g, 0, none⟩) (bs.length + 80) (bs.length + 80), ev] w fun e w' => e = .returned (.bool true) ∧ Below w.heap.size w w' := by
  obtain ⟨ao, cap, rfl, _, hc, hz⟩ := hB
  have hall : ∀ k, k < bs.length + 80 → w.cell? ⟨g, k, none⟩ = some (.int .u8 ((bs ++ marks 80).getD k 0)) := fun k hk => irow_cell hg (by simp [marks]; omega)
  have hgs := lt_of_row hg
  have hlow := at_low bs
  have hhigh := at_high bs
  generalize hlen : bs.length = len at *
  go_enter Try.func26, Try.ntmps26
  go_wp2
  go_loopw [5] (fun i wr => ∃ k : Nat, k ≤ len + 80 ∧ i = .int .i64 k ∧ Below w.heap.size w wr) (fun i _ => len + 80 - (intOf i).toNat)
  case atStart => exact ⟨0, by omega, rfl, Below.refl _ _⟩
  case round =>
    obtain ⟨k, hk, rfl, hw⟩ := hrel
    by_cases hlt : k < len + 80
    · have hd : decide ((k : Int) < (len : Int) + 80) = true := by simp; omega
      have h1 := (hw.cell (p := ⟨g, k, none⟩) hgs).trans (hall k hlt)
      by_cases hin : k < len
      · obtain ⟨b, off, rfl, hb1, hb2⟩ := hc k hin
        replace hb2 := (hw.cell (p := ⟨b, off + k, none⟩) hb1).trans hb2
        rw [hlow k hin] at h1
        have hd2 : decide ((k : Int) < (len : Int)) = true := by simp; omega
        have hd3 : decide (len ≤ k) = false := decide_eq_false (by omega)
        generalize bs.getD k 0 = z at *
        have k1 : ∀ p : Regrown, (grow (redrawn wr p.d) p.os).cell? ⟨g, k, none⟩ = some (.int .u8 z) := fun p => cell_regrown h1 p.d p.os
        have k2 : ∀ p : Regrown, (grow (redrawn wr p.d) p.os).cell? ⟨b, off + k, none⟩ = some (.int .u8 z) := fun p => cell_regrown hb2 p.d p.os
        clear h1 hb2 hall hc hlow hhigh
        go_wp2
        refine wp_region_quiet_below (by kernel_rfl) (by kernel_rfl) ?_
        go_big_quiet_step (fail)
        go_big_quiet_step (fail)
        go_big_quiet_step (fail)
        go_big_quiet_step (fail)
        go_big_quiet_step (fail)
        go_big_quiet_step (fail)
        go_big_quiet_step (fail)
        go_big_quiet_step (fail)
        go_big_quiet_step (fail)
        go_big_quiet_step (fail)
        go_big_quiet_step (fail)
        go_big_quiet_step (fail)
        go_big_quiet_step (fail)
        go_big_quiet_step (fail)
        go_big_quiet_step (fail)
        go_big_quiet_step (fail)
        go_big_quiet_step (fail)
        go_big_quiet_step (fail)
        go_big_quiet_step (fail)
        go_big_quiet_step (fail)
        go_big_quiet_step (fail)
        go_big_quiet_step (fail)
        go_big_quiet_step (fail)
        go_big_quiet_step (fail)
        go_big_quiet_step (fail)
        go_big_quiet_step (fail)
        go_big_quiet_step (fail)
        go_big_quiet_step (fail)
        go_big_quiet_step (fail)
        go_big_quiet_step (fail)
        go_big_quiet_step (fail)
        go_big_quiet_step (fail)
        go_big_quiet_step (fail)
        go_big_quiet_step (fail)
        go_big_quiet_step (fail)
        refine wpQuiet_nil ?_
        rintro _ ⟨p, rfl⟩
        have hb := below_regrown wr p.d p.os
        clear k1 k2
        generalize grow (redrawn wr p.d) p.os = w2 at *
        replace hw := Below.after hw hb
        clear hb
        go_wp2
        go_roundw
        case rel => exact ⟨k + 1, by omega, by go_num, hw⟩
        case measure => simp [intOf]; omega
      · rw [hhigh k hin hlt] at h1
        have hd2 : decide ((k : Int) < (len : Int)) = false := by simp; omega
        have hd3 : decide (len ≤ k) = true := decide_eq_true (by omega)
        have k1 : ∀ p : Regrown, (grow (redrawn wr p.d) p.os).cell? ⟨g, k, none⟩ = some (.int .u8 (171 + ((k : Int) - len) % 60)) := fun p => cell_regrown h1 p.d p.os
        clear h1 hall hc hlow hhigh
        go_wp2
        refine wp_region_quiet_below (by kernel_rfl) (by kernel_rfl) ?_
        go_big_quiet_step (fail)
        go_big_quiet_step (fail)
        go_big_quiet_step (fail)
        go_big_quiet_step (fail)
        go_big_quiet_step (fail)
        go_big_quiet_step (fail)
        go_big_quiet_step (fail)
        go_big_quiet_step (fail)
        go_big_quiet_step (fail)
        go_big_quiet_step (fail)
        go_big_quiet_step (fail)
        go_big_quiet_step (fail)
        go_big_quiet_step (fail)
        go_big_quiet_step (fail)
        go_big_quiet_step (fail)
        go_big_quiet_step (fail)
        go_big_quiet_step (fail)
        go_big_quiet_step (fail)
        go_big_quiet_step (fail)
        go_big_quiet_step (fail)
        go_big_quiet_step (fail)
        go_big_quiet_step (fail)
        go_big_quiet_step (fail)
        go_big_quiet_step (fail)
        go_big_quiet_step (fail)
        go_big_quiet_step (fail)
        go_big_quiet_step (fail)
        go_big_quiet_step (fail)
        go_big_quiet_step (fail)
        go_big_quiet_step (fail)
        go_big_quiet_step (fail)
        go_big_quiet_step (fail)
        go_big_quiet_step (fail)
        go_big_quiet_step (fail)
        go_big_quiet_step (fail)
        refine wpQuiet_nil ?_
        rintro _ ⟨p, rfl⟩
        have hb := below_regrown wr p.d p.os
        clear k1
        generalize grow (redrawn wr p.d) p.os = w2 at *
        replace hw := Below.after hw hb
        clear hb
        go_wp2
        go_roundw
        case rel => exact ⟨k + 1, by omega, by go_num, hw⟩
        case measure => simp [intOf]; omega
    · obtain rfl : k = len + 80 := by omega
      have hd : decide (((len + 80 : Nat) : Int) < (len : Int) + 80) = false := by simp
      go_wp2
      go_ret
      exact ⟨rfl, hw⟩


end Go.Proofs.Ytmldmlbmfbdjoaa

namespace Go.Proofs.Ytmldmlbmfbdjoaa
open Go Go.RowKit Go.Sort
attribute [local go_sem] setCell_drewN alloc_drewN

/-! The reference's Inverse, quick, spread. -/
set_option maxHeartbeats 1000000 in
theorem r_inverse (a : B) : Gives 32 #[.int .u8 (bv a)] (.int .u8 (bv (pown 254 a))) := by
  intro w
  go_enter Try.func32, Try.ntmps32
  go_wp2_with (fail)
  go_loopw [3, 4] (fun x i wr => ∃ k : Nat, k ≤ 254 ∧ i = .int .i64 k ∧ x = .int .u8 (bv (pown k a)) ∧ Below w.heap.size w wr) (fun _ i _ => 254 - (intOf i).toNat)
  case atStart => exact ⟨0, by omega, rfl, rfl, Below.refl _ _⟩
  case round =>
    obtain ⟨k, hk, rfl, rfl, hw⟩ := hrel
    by_cases hlt : k < 254
    · have hd : decide ((k : Int) < 254) = true := by simp; omega
      have c := r_times (pown k a) a
      go_wp2_with (fail)
      refine (c.at _).mono ?_
      rintro e w1 ⟨rfl, hb⟩
      go_wp2
      go_roundw
      case rel => exact ⟨k + 1, by omega, by go_num, rfl, Below.after hw hb⟩
      case measure => simp [intOf]; omega
    · obtain rfl : k = 254 := by omega
      have hd : decide ((254 : Int) < 254) = false := by decide
      obtain ⟨T, hT⟩ : ∃ T, T = pown 254 a := ⟨_, rfl⟩
      rw [← hT]
      replace hT := hide hT
      clear hlt hk
      go_wp2
      go_ret
      rw [← hT.out]
      exact ⟨rfl, hw⟩
/-- The state of quick. -/
def qst : Nat → B → B × B
  | 0, a => (1#8, a)
  | k + 1, a => (tm (qst k a).1 (tm (qst k a).2 (qst k a).2), tm (qst k a).2 (qst k a).2)
theorem qk_qst (a : B) : ∀ n k, qk n (qst k a).1 (qst k a).2 = (qst (k + n) a).1 := by
  intro n
  induction n with
  | zero => intro k; rfl
  | succ n ih =>
    intro k
    have := ih (k + 1)
    rw [qst] at this
    rw [qk, this]
    congr 2
    omega
set_option maxHeartbeats 1000000 in
theorem r_quick (a : B) : Gives 53 #[.int .u8 (bv a)] (.int .u8 (bv (qk 7 1#8 a))) := by
  intro w
  rw [show qk 7 1#8 a = (qst 7 a).1 from qk_qst a 7 0]
  go_enter Try.func53, Try.ntmps53
  go_wp2_with (fail)
  go_loopw [3, 4, 5] (fun x y i wr => ∃ k : Nat, k ≤ 7 ∧ i = .int .i64 k ∧ x = .int .u8 (bv (qst k a).1) ∧ y = .int .u8 (bv (qst k a).2) ∧ Below w.heap.size w wr) (fun _ _ i _ => 7 - (intOf i).toNat)
  case atStart => exact ⟨0, by omega, rfl, rfl, rfl, Below.refl _ _⟩
  case round =>
    obtain ⟨k, hk, rfl, rfl, rfl, hw⟩ := hrel
    by_cases hlt : k < 7
    · have hd : decide ((k : Int) < 7) = true := by simp; omega
      have e1 : tm (qst k a).1 (tm (qst k a).2 (qst k a).2) = (qst (k + 1) a).1 := rfl
      have e2 : tm (qst k a).2 (qst k a).2 = (qst (k + 1) a).2 := rfl
      have c := r_times (qst k a).2 (qst k a).2
      rw [e2] at c e1
      have c2 := r_times (qst k a).1 (qst (k + 1) a).2
      rw [e1] at c2
      clear e1 e2
      go_wp2_with (fail)
      refine (c.at _).mono ?_
      rintro e w1 ⟨rfl, hb⟩
      go_wp2_with (fail)
      refine (c2.at _).mono ?_
      rintro e w2 ⟨rfl, hb2⟩
      go_wp2
      go_roundw
      case rel => exact ⟨k + 1, by omega, by go_num, rfl, rfl, Below.after (Below.after hw hb) hb2⟩
      case measure => simp [intOf]; omega
    · obtain rfl : k = 7 := by omega
      have hd : decide ((7 : Int) < 7) = false := by decide
      obtain ⟨T, hT⟩ : ∃ T, T = qst 7 a := ⟨_, rfl⟩
      rw [← hT]
      replace hT := hide hT
      clear hlt hk
      go_wp2
      go_ret
      rw [← hT.out]
      exact ⟨rfl, hw⟩
/-- One bit of spread, and spread, as they are put together. -/
def bt (y : B) (i : Nat) : Nat → B
  | 0 => 0#8
  | j + 1 => if j = 0 ∨ 4 ≤ j then bt y i j ^^^ ((y >>> ((i + j) % 8)) &&& 1#8) else bt y i j
def rf (y : B) : Nat → B
  | 0 => 0x63#8
  | i + 1 => rf y i ^^^ (bt y i 8 <<< i)
theorem rf_spr : ∀ y : B, rf y 8 = spr y := by decide +kernel
theorem e_bit (y : B) (n : Nat) : bv y / 2 ^ n % 2 = bv ((y >>> n) &&& 1#8) := by
  unfold bv
  rw [BitVec.toNat_and, BitVec.toNat_ushiftRight, Nat.shiftRight_eq_div_pow]
  rw [show BitVec.toNat 1#8 = 1 from rfl, Nat.and_one_is_mod]
  simp
theorem e_tbit (y : B) (n : Nat) : (bv y / 2 ^ n).tmod 2 = bv ((y >>> n) &&& 1#8) := by
  rw [Int.tmod_eq_emod_of_nonneg, e_bit]
  exact Int.ediv_nonneg (bnd y).1 (Int.pow_nonneg (by decide))
theorem e_shl (c : B) (n : Nat) : bv c * 2 ^ n % 256 = bv (c <<< n) := by
  unfold bv
  rw [BitVec.toNat_shiftLeft, Nat.shiftLeft_eq]
  simp
set_option maxHeartbeats 1000000 in
theorem r_spread (y : B) : Gives 31 #[.int .u8 (bv y)] (.int .u8 (bv (spr y))) := by
  intro w
  rw [← rf_spr]
  have hy := bnd y
  go_enter Try.func31, Try.ntmps31
  go_wp2_with (fail)
  go_loopw [3, 4] (fun x i wr => ∃ k : Nat, k ≤ 8 ∧ i = .int .i64 k ∧ x = .int .u8 (bv (rf y k)) ∧ Below w.heap.size w wr) (fun _ i _ => 8 - (intOf i).toNat)
  case atStart => exact ⟨0, by omega, rfl, rfl, Below.refl _ _⟩
  case round =>
    obtain ⟨k, hk, rfl, rfl, hw⟩ := hrel
    by_cases hlt : k < 8
    · have hd : decide ((k : Int) < 8) = true := by simp; omega
      have hr := bnd (rf y k)
      obtain ⟨R, hR⟩ : ∃ R, R = rf y k := ⟨_, rfl⟩
      rw [← hR] at hr ⊢
      replace hR := hide hR
      go_wp2_with (fail)
      go_loopw [5, 6] (fun x j W => ∃ l : Nat, l ≤ 8 ∧ j = .int .i64 l ∧ x = .int .u8 (bv (bt y k l)) ∧ W = wr) (fun _ j _ => 8 - (intOf j).toNat)
      case atStart => exact ⟨0, by omega, rfl, rfl, rfl⟩
      case round =>
        obtain ⟨l, hl, rfl, rfl, rfl⟩ := hrel
        by_cases hl8 : l < 8
        · have hd : decide ((l : Int) < 8) = true := by simp; omega
          have hb := bnd (bt y k l)
          by_cases hq : l = 0 ∨ 4 ≤ l
          · have hst : Hid (bt y k (l + 1) = bt y k l ^^^ ((y >>> ((k + l) % 8)) &&& 1#8)) := hide (by rw [bt, if_pos hq])
            rcases hq with hl0 | hl4
            · subst hl0
              go_wp2
              refine ⟨⟨1, by omega, rfl, ?_, trivial⟩, by simp [intOf]⟩
              rw [show (1 : Nat) = 0 + 1 from rfl, hst.out, ← xor8, ← e_tbit, Nat.add_zero]
            · have h0 : ¬ l = 0 := by omega
              have h4 : (4 : Int) ≤ (l : Int) := by omega
              go_wp2
              refine ⟨⟨l + 1, by omega, by go_num, ?_, trivial⟩, by simp [intOf]; omega⟩
              rw [hst.out, ← xor8, ← e_tbit]
          · have hst : Hid (bt y k (l + 1) = bt y k l) := hide (by rw [bt, if_neg hq])
            have h0 : ¬ l = 0 := by omega
            have h4 : ¬ (4 : Int) ≤ (l : Int) := by omega
            go_wp2
            refine ⟨⟨l + 1, by omega, by go_num, by rw [hst.out], trivial⟩, by simp [intOf]; omega⟩
        · obtain rfl : l = 8 := by omega
          have hd : decide ((8 : Int) < 8) = false := by decide
          have hst : Hid (rf y (k + 1) = R ^^^ (bt y k 8 <<< k)) := hide (by rw [hR.out, rf])
          generalize bt y k 8 = C at *
          have hb := bnd C
          go_wp2
          refine ⟨⟨k + 1, by omega, by go_num, ?_, hw⟩, by simp [intOf]; omega⟩
          rw [hst.out, ← xor8, ← e_shl]
    · obtain rfl : k = 8 := by omega
      have hd : decide ((8 : Int) < 8) = false := by decide
      obtain ⟨T, hT⟩ : ∃ T, T = rf y 8 := ⟨_, rfl⟩
      rw [← hT]
      replace hT := hide hT
      clear hlt hk
      go_wp2
      go_ret
      rw [← hT.out]
      exact ⟨rfl, hw⟩
set_option maxHeartbeats 1000000 in
theorem r_sub (x : B) : Gives 12 #[.int .u8 (bv x)] (.int .u8 (bv (sb x))) := by
  intro w
  have c1 := r_inverse x
  have c2 := r_spread (pown 254 x)
  rw [show spr (pown 254 x) = sb x by rw [sb_qk, pown_254]] at c2
  obtain ⟨T, hT⟩ : ∃ T, T = pown 254 x := ⟨_, rfl⟩
  rw [← hT] at c1 c2
  clear hT
  go_enter Try.func12, Try.ntmps12
  go_wp2_with (fail)
  refine (c1.at _).mono ?_
  rintro e w1 ⟨rfl, hb⟩
  go_wp2_with (fail)
  refine (c2.at _).mono ?_
  rintro e w2 ⟨rfl, hb2⟩
  go_wp2
  go_ret
  exact ⟨rfl, Below.after hb hb2⟩
set_option maxRecDepth 100000 in
set_option maxHeartbeats 4000000 in
theorem r_table : Gives 33 #[] (.agg (irow .u8 (bl sbl))) := by
  intro w
  have hz : ∀ W : World, (Instr.alloc 55 true (.tuple #[])).run Try.prog W = .ok (.pointer (some ⟨W.heap.size, 0, none⟩)) (W.alloc (.cells (irow .u8 (bl (pt (fun x => sb (BitVec.ofNat 8 x)) 256 0))) 55)) := by rw [← zr_pt]; exact z256
  have R0 := hp2_0 w (.cells (irow .u8 (bl (pt (fun x => sb (BitVec.ofNat 8 x)) 256 0))) 55) (.cells (irow .u8 (bl (pt (fun x => sb (BitVec.ofNat 8 x)) 256 0))) 55)
  have R1 := hp2_1 w (.cells (irow .u8 (bl (pt (fun x => sb (BitVec.ofNat 8 x)) 256 0))) 55) (.cells (irow .u8 (bl (pt (fun x => sb (BitVec.ofNat 8 x)) 256 0))) 55)
  have HW := (((Below.refl w.heap.size w).alloc (Nat.le_refl _) (.cells (irow .u8 (bl (pt (fun x => sb (BitVec.ofNat 8 x)) 256 0))) 55)).alloc (by simp) (.cells (irow .u8 (bl (pt (fun x => sb (BitVec.ofNat 8 x)) 256 0))) 55))
  go_enter Try.func33, Try.ntmps33
  go_wp2_with (first | (refine wpList_alloc rfl 55 rfl (irow .u8 (bl (pt (fun x => sb (BitVec.ofNat 8 x)) 256 0))) hz ?_) | fail)
  clear hz
  generalize World.alloc _ _ = w0 at *
  go_loopw [2] (fun i wr => ∃ k : Nat, k ≤ 256 ∧ i = .int .i64 k ∧ wr.heap[w.heap.size]? = some (.cells (irow .u8 (bl (pt (fun x => sb (BitVec.ofNat 8 x)) 256 0))) 55 (0, 0)) ∧ wr.heap[w.heap.size + 1]? = some (.cells (irow .u8 (bl (pt (fun x => sb (BitVec.ofNat 8 x)) 256 k))) 55 (0, 0)) ∧ Below w.heap.size w wr) (fun i _ => 256 - (intOf i).toNat)
  case atStart => exact ⟨0, by omega, rfl, R0, R1, HW⟩
  case round =>
    clear R0 R1 HW
    obtain ⟨k, hk, rfl, r0, r1, hw⟩ := hrel
    by_cases hlt : k < 256
    · have hd : decide ((k : Int) < 256) = true := by simp; omega
      have c1 := r_quick (BitVec.ofNat 8 k)
      have c2 := r_spread (qk 7 1#8 (BitVec.ofNat 8 k))
      rw [← sb_qk] at c2
      rw [of_bv k hlt] at c1
      have hset := hide (pt_set (fun x => sb (BitVec.ofNat 8 x)) 256 k hlt)
      go_wp2_with (fail)
      refine (c1.at _).mono ?_
      rintro e w1 ⟨rfl, hb⟩
      replace r0 := keep hb r0
      replace r1 := keep hb r1
      replace hw := Below.after hw hb
      clear hb c1
      go_wp2_with (fail)
      refine (c2.at _).mono ?_
      rintro e w2 ⟨rfl, hb⟩
      replace r0 := keep hb r0
      replace r1 := keep hb r1
      replace hw := Below.after hw hb
      clear hb c2
      have c0 := brow_cell r1 (j := k) (by rw [pt_len]; exact hlt)
      have hf := row_frozen r1 k
      go_wp2
      refine ⟨⟨k + 1, by omega, by go_num, heap_other r0 (by omega), by rw [← hset.out]; exact brow_set r1 k _, hw.setCell (show w.heap.size ≤ w.heap.size + 1 by omega) _⟩, by simp [intOf]; omega⟩
    · obtain rfl : k = 256 := by omega
      have hd : decide ((256 : Int) < 256) = false := by decide
      replace r1 : wr.heap[w.heap.size + 1]? = some (.cells (irow .u8 (bl sbl)) 55 (0, 0)) := r1
      have hin := info256 sbl sbl_len
      have hfi := fit256 (pt (fun x => sb (BitVec.ofNat 8 x)) 256 0) sbl (pt_len _ _ _) sbl_len
      clear hk hlt
      go_wp2_with (first | (refine wpList_load_want rfl 55 _ rfl (w.heap.size + 1) rfl 55 (irow .u8 (bl sbl)) (0, 0) _ r1 Try.underlying55 rfl hin ?_) | (refine wpList_store_row rfl 55 _ _ rfl (w.heap.size) (irow .u8 (bl sbl)) rfl rfl 55 _ r0 hin hfi (irow_one _ _) ?_) | fail)
      replace r0 := setRow_heap wr (w.heap.size) _ (irow .u8 (bl sbl)) _ _ r0
      replace hw := below_setRow hw (Nat.le_refl _) (irow .u8 (bl sbl))
      generalize wr.setRow (w.heap.size) (irow .u8 (bl sbl)) = w9 at *
      exact bodyPost_ret (v := .agg (irow .u8 (bl sbl))) (results_cell_row Try.results33 _ _ (w.heap.size) _ _ _ _ rfl r0 Try.underlying55 rfl hin) rfl ⟨rfl, hw⟩
theorem sb_eq_iff (x : B) (k : Nat) (hk : k < 256) : sb (BitVec.ofNat 8 k) = x ↔ k = (bk x).toNat := by
  constructor
  · intro h
    rw [← h, bk_sb, BitVec.toNat_ofNat]; omega
  · intro h
    rw [h, BitVec.ofNat_toNat, BitVec.setWidth_eq, sb_bk]
set_option maxRecDepth 100000 in
set_option maxHeartbeats 4000000 in
theorem r_back (x : B) : Gives 14 #[.int .u8 (bv x)] (.int .u8 (bv (bk x))) := by
  intro w
  have hc := r_table
  have hin := info256 sbl sbl_len
  have hfi := fit256 (pt (fun x => sb (BitVec.ofNat 8 x)) 256 0) sbl (pt_len _ _ _) sbl_len
  have hz : ∀ W : World, (Instr.alloc 55 true (.tuple #[])).run Try.prog W = .ok (.pointer (some ⟨W.heap.size, 0, none⟩)) (W.alloc (.cells (irow .u8 (bl (pt (fun x => sb (BitVec.ofNat 8 x)) 256 0))) 55)) := by rw [← zr_pt]; exact z256
  go_enter Try.func14, Try.ntmps14
  go_wp2_with (fail)
  refine (hc.at _).mono ?_
  rintro e w1 ⟨rfl, hb⟩
  have R0 := hp1_0 w1 (.cells (irow .u8 (bl (pt (fun x => sb (BitVec.ofNat 8 x)) 256 0))) 55)
  have HW := Below.after hb ((Below.refl w1.heap.size w1).alloc (Nat.le_refl _) (.cells (irow .u8 (bl (pt (fun x => sb (BitVec.ofNat 8 x)) 256 0))) 55))
  have hs := hb.size
  go_wp2_with (first | (refine wpList_alloc rfl 55 rfl (irow .u8 (bl (pt (fun x => sb (BitVec.ofNat 8 x)) 256 0))) hz ?_) | (refine wpList_store_row rfl 55 _ _ rfl (w1.heap.size) (irow .u8 (bl sbl)) rfl rfl 55 _ R0 hin hfi (irow_one _ _) ?_) | fail)
  replace R0 := setRow_heap _ (w1.heap.size) _ (irow .u8 (bl sbl)) _ _ R0
  replace HW := below_setRow HW hs (irow .u8 (bl sbl))
  generalize World.setRow _ (w1.heap.size) (irow .u8 (bl sbl)) = w2 at *
  clear hz hb hc
  have hbk := (bk x).isLt
  have hlow : Hid (∀ k < 256, (bv (sb (BitVec.ofNat 8 k)) = bv x ↔ k = (bk x).toNat)) := hide (fun k h => by rw [bv_inj, sb_eq_iff x k h])
  go_loopw [4] (fun i wr => ∃ k : Nat, k ≤ (bk x).toNat ∧ i = .int .i64 k ∧ wr = w2) (fun i _ => 256 - (intOf i).toNat)
  case atStart => exact ⟨0, by omega, rfl, rfl⟩
  case round =>
    obtain ⟨k, hk, rfl, rfl⟩ := hrel
    have hlt : k < 256 := by omega
    have hd : decide ((k : Int) < 256) = true := by simp; omega
    have c0 := brow_cell R0 (j := k) (by rw [sbl_len]; exact hlt)
    rw [sbl, pt_get _ _ _ hlt hlt] at c0
    by_cases he : k = (bk x).toNat
    · have hq : bv (sb (BitVec.ofNat 8 k)) = bv x := (hlow.out k hlt).2 he
      have hz : (bv (bk x)) = (k : Int) := by unfold bv; rw [he]
      rw [hq] at c0
      clear hq he hbk hk
      go_wp2
      go_ret
      rw [hz]
      exact ⟨rfl, HW⟩
    · have hq : ¬ bv (sb (BitVec.ofNat 8 k)) = bv x := fun h => he ((hlow.out k hlt).1 h)
      have hde : decide (bv (sb (BitVec.ofNat 8 k)) = bv x) = false := decide_eq_false hq
      go_wp2
      refine ⟨⟨k + 1, by omega, by go_num, trivial⟩, by simp [intOf]; omega⟩
end Go.Proofs.Ytmldmlbmfbdjoaa

namespace Go.Proofs.Ytmldmlbmfbdjoaa
open Go Go.RowKit Go.Sort
attribute [local go_sem] setCell_drewN alloc_drewN


/-! Lists turned place by place. -/
def pm (f g : Nat → B) (n k : Nat) : List B := (List.range n).map fun j => if j < k then f j else g j
theorem pm_len (f g : Nat → B) (n k : Nat) : (pm f g n k).length = n := by simp [pm]
theorem pm_get (f g : Nat → B) (n k : Nat) (h : k < n) : (pm f g n k).getD k 0#8 = g k := by
  simp [pm, List.getD_eq_getElem?_getD, h]
theorem pm_set (f g : Nat → B) (n k : Nat) (h : k < n) : (pm f g n k).set k (f k) = pm f g n (k + 1) := by
  apply List.ext_getElem?
  intro j
  rw [List.getElem?_set]
  by_cases e : k = j
  · subst e
    rw [if_pos rfl, if_pos (by rw [pm_len]; exact h)]
    simp [pm, h]
  · rw [if_neg e]
    simp only [pm, List.getElem?_map]
    by_cases hj : j < n
    · simp only [List.getElem?_range hj, Option.map_some]
      by_cases h1 : j < k
      · rw [if_pos h1, if_pos (by omega)]
      · rw [if_neg h1, if_neg (by omega)]
    · rw [List.getElem?_eq_none (by simp; omega)]; rfl
theorem pm_zero (f : Nat → B) (l : List B) (hl : l.length = 16) : pm f (gb l) 16 0 = l := by
  apply ext16 (pm_len _ _ _ _) hl
  intro i hi
  simp [pm, List.getD_eq_getElem?_getD, hi, gb]
theorem pm_full (m : List B) (g : Nat → B) (hm : m.length = 16) : pm (gb m) g 16 16 = m := by
  apply ext16 (pm_len _ _ _ _) hm
  intro i hi
  simp [pm, List.getD_eq_getElem?_getD, hi, gb]
theorem bR (cs : Array Value) (W : World) : (Instr.box 31 (.agg cs)).run Try.prog W = .ok (.pointer (some ⟨W.heap.size, 0, none⟩)) (W.alloc (.cells cs 31)) := by kernel_rfl
theorem zR (W : World) : (Instr.alloc 31 true (.tuple #[])).run Try.prog W = .ok (.pointer (some ⟨W.heap.size, 0, none⟩)) (W.alloc (.cells (irow .u8 (zr 16)) 31)) := by kernel_rfl
theorem b256 (cs : Array Value) (W : World) : (Instr.box 55 (.agg cs)).run Try.prog W = .ok (.pointer (some ⟨W.heap.size, 0, none⟩)) (W.alloc (.cells cs 55)) := by kernel_rfl
theorem infoR : (Try.prog.info? 31).map (·.size) = some 16 := by kernel_rfl

set_option maxRecDepth 100000 in
set_option maxHeartbeats 4000000 in
theorem r_xor (a b : List B) (ha : a.length = 16) (hb : b.length = 16) : Gives 46 #[.agg (irow .u8 (bl (a))), .agg (irow .u8 (bl (b)))] (.agg (irow .u8 (bl (xorL a b)))) := by
  intro w
  have R0 := hp3_0 w (.cells (irow .u8 (bl (pm (gb (xorL a b)) (gb a) 16 0))) 31) (.cells (irow .u8 (bl (b))) 31) (.cells (irow .u8 (zr 16)) 31)
  have R1 := hp3_1 w (.cells (irow .u8 (bl (pm (gb (xorL a b)) (gb a) 16 0))) 31) (.cells (irow .u8 (bl (b))) 31) (.cells (irow .u8 (zr 16)) 31)
  have R2 := hp3_2 w (.cells (irow .u8 (bl (pm (gb (xorL a b)) (gb a) 16 0))) 31) (.cells (irow .u8 (bl (b))) 31) (.cells (irow .u8 (zr 16)) 31)
  have hw : Below w.heap.size w (((w.alloc (.cells (irow .u8 (bl (pm (gb (xorL a b)) (gb a) 16 0))) 31)).alloc (.cells (irow .u8 (bl (b))) 31)).alloc (.cells (irow .u8 (zr 16)) 31)) := ((((Below.refl _ _).alloc (Nat.le_refl _) _).alloc (by simp) _).alloc (by simp; omega) _)

  rw [← pm_zero (gb (xorL a b)) a ha]
  go_enter Try.func46, Try.ntmps46
  go_wp2_with (first | (refine wpList_box rfl 31 _ rfl _ rfl (bR _) ?_) | (refine wpList_alloc rfl 31 rfl (irow .u8 (zr 16)) zR ?_) | fail)
  try simp only [size_alloc1, Act.put, List.setIfInBounds_toArray, List.set_cons_succ, List.set_cons_zero]
  generalize World.alloc _ _ = w0 at *
  rw [pm_zero (gb (xorL a b)) a ha]
  go_loopw [5] (fun i wr => ∃ k : Nat, k ≤ 16 ∧ i = .int .i64 k ∧ wr.heap[w.heap.size]? = some (.cells (irow .u8 (bl (pm (gb (xorL a b)) (gb a) 16 k))) 31 (0, 0)) ∧ wr.heap[w.heap.size + 1]? = some (.cells (irow .u8 (bl (b))) 31 (0, 0)) ∧ wr.heap[w.heap.size + 1 + 1]? = some (.cells (irow .u8 (zr 16)) 31 (0, 0)) ∧ Below w.heap.size w wr) (fun i _ => 16 - (intOf i).toNat)
  case atStart => exact ⟨0, by omega, rfl, R0, R1, R2, hw⟩
  case round =>
    clear R0 R1 R2 hw
    obtain ⟨k, hk, rfl, r0, r1, r2, hw⟩ := hrel
    by_cases hlt : k < 16
    · have hd : decide ((k : Int) < 16) = true := by simp; omega
      have c0 := brow_cell r0 (j := k) (by rw [pm_len]; omega)
      rw [pm_get _ _ _ _ hlt] at c0
      have c1 := brow_cell r1 (j := k) (by omega)
      rw [show b.getD k 0#8 = gb b k from rfl] at c1
      have hx := xor8 (gb a k) (gb b k)
      have hset := hide (pm_set (gb (xorL a b)) (gb a) 16 k hlt)
      rw [show gb (xorL a b) k = gb a k ^^^ gb b k from xorL_get a b hlt] at hset
      generalize gb a k = x0 at *
      generalize gb b k = x1 at *
      go_wp2_with (fail)
      have k0 : ∀ p : Regrown, (grow (redrawn wr p.d) p.os).cell? ⟨w.heap.size, k, none⟩ = some (.int .u8 (bv x0)) := fun p => cell_regrown (c0) p.d p.os
      have k1 : ∀ p : Regrown, (grow (redrawn wr p.d) p.os).cell? ⟨w.heap.size + 1, k, none⟩ = some (.int .u8 (bv x1)) := fun p => cell_regrown (c1) p.d p.os
      refine wp_region_tail (C := fun w' => ∃ p : Regrown, w' = grow (redrawn wr p.d) p.os) 9 _ rfl rfl rfl (by kernel_rfl) (by kernel_rfl) (by kernel_rfl) (by kernel_rfl) ⟨⟨wr.drawn + 1, #[]⟩, by rw [grow_empty]; rfl⟩ ?_
      dsimp only [List.set, idle]
      go_big_quiet_step (fail)
      go_big_quiet_step (fail)
      go_big_quiet_step (fail)
      go_big_quiet_step (fail)
      go_big_quiet_step (fail)
      go_big_quiet_step (fail)
      go_big_quiet_step (fail)
      go_big_quiet_step (fail)
      go_big_quiet_step (fail)
      refine wpQuiet_idle rfl rfl rfl ?_
      rintro _ ⟨p, rfl⟩
      have hb := below_regrown wr p.d p.os
      generalize grow (redrawn wr p.d) p.os = w1 at *
      clear k0 k1
      replace r0 := keep hb r0
      replace r1 := keep hb r1
      replace r2 := keep hb r2
      replace hw := Below.after hw hb
      clear hb

      have cw := brow_cell r0 (j := k) (by rw [pm_len]; omega)
      have hf := row_frozen r0 k
      clear c0 c1
      go_wp2
      refine ⟨⟨k + 1, by omega, by go_num, by rw [← hset.out]; exact brow_set r0 k _, heap_other r1 (by omega), heap_other r2 (by omega), hw.setCell (Nat.le_refl _) _⟩, by simp [intOf]; omega⟩
    · obtain rfl : k = 16 := by omega
      have hd : decide ((16 : Int) < 16) = false := by decide
      rw [pm_full _ _ (xorL_len _ _)] at r0
      clear hk hlt
      have hi9 := info_bl infoR (xorL a b) (xorL_len _ _)
      have hfi : (irow .u8 (zr 16)).size = (irow .u8 (bl (xorL a b))).size := by rw [irow_size, irow_size, bl_len, xorL_len, zr_len]
      go_wp2_with (first | (refine wpList_load_want rfl 31 _ rfl (w.heap.size) rfl 31 (irow .u8 (bl (xorL a b))) (0, 0) _ r0 Try.underlying31 rfl hi9 ?_) | (refine wpList_store_row rfl 31 _ _ rfl (w.heap.size + 1 + 1) (irow .u8 (bl (xorL a b))) rfl rfl 31 _ r2 hi9 hfi (irow_one _ _) ?_) | fail)
      replace r2 := setRow_heap wr (w.heap.size + 1 + 1) _ (irow .u8 (bl (xorL a b))) _ _ r2
      replace hw := below_setRow hw (show w.heap.size ≤ w.heap.size + 1 + 1 by omega) (irow .u8 (bl (xorL a b)))
      generalize wr.setRow (w.heap.size + 1 + 1) (irow .u8 (bl (xorL a b))) = w9 at *
      exact bodyPost_ret (v := .agg (irow .u8 (bl (xorL a b)))) (results_cell_row Try.results46 _ _ (w.heap.size + 1 + 1) _ _ _ _ rfl r2 Try.underlying31 rfl hi9) rfl ⟨rfl, hw⟩


set_option maxRecDepth 100000 in
set_option maxHeartbeats 4000000 in
theorem r_subShift (l : List B) (hl : l.length = 16) : Gives 60 #[.agg (irow .u8 (bl (sbl))), .agg (irow .u8 (bl (l)))] (.agg (irow .u8 (bl (shiftL (subL l))))) := by
  intro w
  have hz : ∀ W : World, (Instr.alloc 31 true (.tuple #[])).run Try.prog W = .ok (.pointer (some ⟨W.heap.size, 0, none⟩)) (W.alloc (.cells (irow .u8 (bl (pt (gb (shiftL (subL l))) 16 (0)))) 31)) := by rw [← zr_pt]; exact zR
  have R0 := hp4_0 w (.cells (irow .u8 (bl (sbl))) 55) (.cells (irow .u8 (bl (l))) 31) (.cells (irow .u8 (bl (pt (gb (shiftL (subL l))) 16 0))) 31) (.cells (irow .u8 (bl (pt (gb (shiftL (subL l))) 16 0))) 31)
  have R1 := hp4_1 w (.cells (irow .u8 (bl (sbl))) 55) (.cells (irow .u8 (bl (l))) 31) (.cells (irow .u8 (bl (pt (gb (shiftL (subL l))) 16 0))) 31) (.cells (irow .u8 (bl (pt (gb (shiftL (subL l))) 16 0))) 31)
  have R2 := hp4_2 w (.cells (irow .u8 (bl (sbl))) 55) (.cells (irow .u8 (bl (l))) 31) (.cells (irow .u8 (bl (pt (gb (shiftL (subL l))) 16 0))) 31) (.cells (irow .u8 (bl (pt (gb (shiftL (subL l))) 16 0))) 31)
  have R3 := hp4_3 w (.cells (irow .u8 (bl (sbl))) 55) (.cells (irow .u8 (bl (l))) 31) (.cells (irow .u8 (bl (pt (gb (shiftL (subL l))) 16 0))) 31) (.cells (irow .u8 (bl (pt (gb (shiftL (subL l))) 16 0))) 31)
  have hw : Below w.heap.size w ((((w.alloc (.cells (irow .u8 (bl (sbl))) 55)).alloc (.cells (irow .u8 (bl (l))) 31)).alloc (.cells (irow .u8 (bl (pt (gb (shiftL (subL l))) 16 0))) 31)).alloc (.cells (irow .u8 (bl (pt (gb (shiftL (subL l))) 16 0))) 31)) := (((((Below.refl _ _).alloc (Nat.le_refl _) _).alloc (by simp) _).alloc (by simp; omega) _).alloc (by simp; omega) _)

  go_enter Try.func60, Try.ntmps60
  go_wp2_with (first | (refine wpList_box rfl 55 _ rfl _ rfl (b256 _) ?_) | (refine wpList_box rfl 31 _ rfl _ rfl (bR _) ?_) | (refine wpList_alloc rfl 31 rfl (irow .u8 (bl (pt (gb (shiftL (subL l))) 16 (0)))) hz ?_) | fail)
  try simp only [size_alloc1, Act.put, List.setIfInBounds_toArray, List.set_cons_succ, List.set_cons_zero]
  clear hz
  generalize World.alloc _ _ = w0 at *
  go_loopw [6] (fun i wr => ∃ c : Nat, c ≤ 4 ∧ i = .int .i64 c ∧ wr.heap[w.heap.size]? = some (.cells (irow .u8 (bl (sbl))) 55 (0, 0)) ∧ wr.heap[w.heap.size + 1]? = some (.cells (irow .u8 (bl (l))) 31 (0, 0)) ∧ wr.heap[w.heap.size + 1 + 1]? = some (.cells (irow .u8 (bl (pt (gb (shiftL (subL l))) 16 (0)))) 31 (0, 0)) ∧ wr.heap[w.heap.size + 1 + 1 + 1]? = some (.cells (irow .u8 (bl (pt (gb (shiftL (subL l))) 16 (4 * c)))) 31 (0, 0)) ∧ Below w.heap.size w wr) (fun i _ => 4 - (intOf i).toNat)
  case atStart => exact ⟨0, by omega, rfl, R0, R1, R2, R3, hw⟩
  case round =>
    clear R0 R1 R2 R3 hw
    obtain ⟨c, hc, rfl, r0, r1, r2, r3, hw⟩ := hrel
    by_cases hlc : c < 4
    · have hd : decide ((c : Int) < 4) = true := by simp; omega
      go_wp2_with (fail)
      go_loopw [7] (fun i wr => ∃ k : Nat, k ≤ 4 ∧ i = .int .i64 k ∧ wr.heap[w.heap.size]? = some (.cells (irow .u8 (bl (sbl))) 55 (0, 0)) ∧ wr.heap[w.heap.size + 1]? = some (.cells (irow .u8 (bl (l))) 31 (0, 0)) ∧ wr.heap[w.heap.size + 1 + 1]? = some (.cells (irow .u8 (bl (pt (gb (shiftL (subL l))) 16 (0)))) 31 (0, 0)) ∧ wr.heap[w.heap.size + 1 + 1 + 1]? = some (.cells (irow .u8 (bl (pt (gb (shiftL (subL l))) 16 (4 * c + k)))) 31 (0, 0)) ∧ Below w.heap.size w wr) (fun i _ => 4 - (intOf i).toNat)
      case atStart => exact ⟨0, by omega, rfl, r0, r1, r2, r3, hw⟩
      case round =>
        clear r0 r1 r2 r3 hw
        obtain ⟨k, hk, rfl, r0, r1, r2, r3, hw⟩ := hrel
        by_cases hlt : k < 4
        · have hd : decide ((k : Int) < 4) = true := by simp; omega
          have hr : ((c : Int) + (k : Int)).tmod 4 = (((c + k) % 4 : Nat) : Int) := by rw [Int.tmod_eq_emod_of_nonneg (by omega)]; rfl
          have c1 := brow_cell r1 (j := k + 4 * ((c + k) % 4)) (by omega)
          have hfv : gb (shiftL (subL l)) (4 * c + k) = sb (l.getD (k + 4 * ((c + k) % 4)) 0#8) := by
            rw [gb, shiftL_get _ (by omega), subL_get _ (by omega), show (4 * c + k) % 4 = k by omega, show (4 * c + k) / 4 = c by omega]
          have c2 := brow_cell r0 (j := (l.getD (k + 4 * ((c + k) % 4)) 0#8).toNat) (by rw [sbl_len]; exact (l.getD (k + 4 * ((c + k) % 4)) 0#8).isLt)
          rw [sbl_get, ← hfv] at c2
          have hset := hide (pt_set (gb (shiftL (subL l))) 16 (4 * c + k) (by omega))
          have n1 := bv_nat (l.getD (k + 4 * ((c + k) % 4)) 0#8)
          have b1 := bnd (l.getD (k + 4 * ((c + k) % 4)) 0#8)
          clear hfv
          generalize l.getD (k + 4 * ((c + k) % 4)) 0#8 = x1 at *
          generalize gb (shiftL (subL l)) (4 * c + k) = x2 at *
          have cw := brow_cell r3 (j := 4 * c + k) (by rw [pt_len]; omega)
          have hf := row_frozen r3 (4 * c + k)
          have hcm : k + 4 * c = 4 * c + k := by omega
          go_wp2
          refine ⟨⟨k + 1, by omega, by go_num, heap_other r0 (by omega), heap_other r1 (by omega), heap_other r2 (by omega), by rw [← Nat.add_assoc, ← hset.out]; exact brow_set r3 (4 * c + k) x2, hw.setCell (show w.heap.size ≤ w.heap.size + 1 + 1 + 1 by omega) _⟩, by simp [intOf]; omega⟩
        · obtain rfl : k = 4 := by omega
          have hd : decide ((4 : Int) < 4) = false := by decide
          go_wp2
          refine ⟨⟨c + 1, by omega, by go_num, r0, r1, r2, r3, hw⟩, by simp [intOf]; omega⟩
    · obtain rfl : c = 4 := by omega
      have hd : decide ((4 : Int) < 4) = false := by decide
      rw [show pt (gb (shiftL (subL l))) 16 (4 * 4) = shiftL (subL l) from pt_self _ (shiftL_len _)] at r3
      clear hc hlc
      have hi9 := info_bl infoR (shiftL (subL l)) (shiftL_len _)
      have hfi : (irow .u8 (bl (pt (gb (shiftL (subL l))) 16 (0)))).size = (irow .u8 (bl (shiftL (subL l)))).size := by rw [irow_size, irow_size, bl_len, bl_len, shiftL_len, pt_len]
      go_wp2_with (first | (refine wpList_load_want rfl 31 _ rfl (w.heap.size + 1 + 1 + 1) rfl 31 (irow .u8 (bl (shiftL (subL l)))) (0, 0) _ r3 Try.underlying31 rfl hi9 ?_) | (refine wpList_store_row rfl 31 _ _ rfl (w.heap.size + 1 + 1) (irow .u8 (bl (shiftL (subL l)))) rfl rfl 31 _ r2 hi9 hfi (irow_one _ _) ?_) | fail)
      replace r2 := setRow_heap wr (w.heap.size + 1 + 1) _ (irow .u8 (bl (shiftL (subL l)))) _ _ r2
      replace hw := below_setRow hw (show w.heap.size ≤ w.heap.size + 1 + 1 by omega) (irow .u8 (bl (shiftL (subL l))))
      generalize wr.setRow (w.heap.size + 1 + 1) (irow .u8 (bl (shiftL (subL l)))) = w9 at *
      exact bodyPost_ret (v := .agg (irow .u8 (bl (shiftL (subL l))))) (results_cell_row Try.results60 _ _ (w.heap.size + 1 + 1) _ _ _ _ rfl r2 Try.underlying31 rfl hi9) rfl ⟨rfl, hw⟩


set_option maxRecDepth 100000 in
set_option maxHeartbeats 4000000 in
theorem r_mix (l : List B) (hl : l.length = 16) : Gives 59 #[.agg (irow .u8 (bl (l)))] (.agg (irow .u8 (bl (mixL l)))) := by
  intro w
  have hz : ∀ W : World, (Instr.alloc 31 true (.tuple #[])).run Try.prog W = .ok (.pointer (some ⟨W.heap.size, 0, none⟩)) (W.alloc (.cells (irow .u8 (bl (pt (gb (mixL l)) 16 (0)))) 31)) := by rw [← zr_pt]; exact zR
  have R0 := hp3_0 w (.cells (irow .u8 (bl (l))) 31) (.cells (irow .u8 (bl (pt (gb (mixL l)) 16 (0)))) 31) (.cells (irow .u8 (bl (pt (gb (mixL l)) 16 (0)))) 31)
  have R1 := hp3_1 w (.cells (irow .u8 (bl (l))) 31) (.cells (irow .u8 (bl (pt (gb (mixL l)) 16 (0)))) 31) (.cells (irow .u8 (bl (pt (gb (mixL l)) 16 (0)))) 31)
  have R2 := hp3_2 w (.cells (irow .u8 (bl (l))) 31) (.cells (irow .u8 (bl (pt (gb (mixL l)) 16 (0)))) 31) (.cells (irow .u8 (bl (pt (gb (mixL l)) 16 (0)))) 31)
  have hw : Below w.heap.size w (((w.alloc (.cells (irow .u8 (bl (l))) 31)).alloc (.cells (irow .u8 (bl (pt (gb (mixL l)) 16 (0)))) 31)).alloc (.cells (irow .u8 (bl (pt (gb (mixL l)) 16 (0)))) 31)) := ((((Below.refl _ _).alloc (Nat.le_refl _) _).alloc (by simp) _).alloc (by simp; omega) _)

  go_enter Try.func59, Try.ntmps59
  go_wp2_with (first | (refine wpList_box rfl 31 _ rfl _ rfl (bR _) ?_) | (refine wpList_alloc rfl 31 rfl (irow .u8 (bl (pt (gb (mixL l)) 16 (0)))) hz ?_) | fail)
  try simp only [size_alloc1, Act.put, List.setIfInBounds_toArray, List.set_cons_succ, List.set_cons_zero]
  clear hz
  generalize World.alloc _ _ = w0 at *
  go_loopw [4] (fun i wr => ∃ c : Nat, c ≤ 4 ∧ i = .int .i64 c ∧ wr.heap[w.heap.size]? = some (.cells (irow .u8 (bl (l))) 31 (0, 0)) ∧ wr.heap[w.heap.size + 1]? = some (.cells (irow .u8 (bl (pt (gb (mixL l)) 16 (0)))) 31 (0, 0)) ∧ wr.heap[w.heap.size + 1 + 1]? = some (.cells (irow .u8 (bl (pt (gb (mixL l)) 16 (4 * c)))) 31 (0, 0)) ∧ Below w.heap.size w wr) (fun i _ => 4 - (intOf i).toNat)
  case atStart => exact ⟨0, by omega, rfl, R0, R1, R2, hw⟩
  case round =>
    clear R0 R1 R2 hw
    obtain ⟨c, hc, rfl, r0, r1, r2, hw⟩ := hrel
    by_cases hlc : c < 4
    · have hd : decide ((c : Int) < 4) = true := by simp; omega
      go_wp2_with (fail)
      go_loopw [5] (fun i wr => ∃ k : Nat, k ≤ 4 ∧ i = .int .i64 k ∧ wr.heap[w.heap.size]? = some (.cells (irow .u8 (bl (l))) 31 (0, 0)) ∧ wr.heap[w.heap.size + 1]? = some (.cells (irow .u8 (bl (pt (gb (mixL l)) 16 (0)))) 31 (0, 0)) ∧ wr.heap[w.heap.size + 1 + 1]? = some (.cells (irow .u8 (bl (pt (gb (mixL l)) 16 (4 * c + k)))) 31 (0, 0)) ∧ Below w.heap.size w wr) (fun i _ => 4 - (intOf i).toNat)
      case atStart => exact ⟨0, by omega, rfl, r0, r1, r2, hw⟩
      case round =>
        clear r0 r1 r2 hw
        obtain ⟨k, hk, rfl, r0, r1, r2, hw⟩ := hrel
        by_cases hlt : k < 4
        · have hd : decide ((k : Int) < 4) = true := by simp; omega
          have hr1 : ((k : Int) + 1).tmod 4 = (((k + 1) % 4 : Nat) : Int) := by rw [Int.tmod_eq_emod_of_nonneg (by omega)]; rfl
          have hr2 : ((k : Int) + 2).tmod 4 = (((k + 2) % 4 : Nat) : Int) := by rw [Int.tmod_eq_emod_of_nonneg (by omega)]; rfl
          have hr3 : ((k : Int) + 3).tmod 4 = (((k + 3) % 4 : Nat) : Int) := by rw [Int.tmod_eq_emod_of_nonneg (by omega)]; rfl
          have hfv : gb (mixL l) (4 * c + k) = dbl (l.getD (4 * c + k) 0#8) ^^^ dbl (l.getD (4 * c + (k + 1) % 4) 0#8) ^^^ l.getD (4 * c + (k + 1) % 4) 0#8 ^^^ l.getD (4 * c + (k + 2) % 4) 0#8 ^^^ l.getD (4 * c + (k + 3) % 4) 0#8 := by
            have h1 : gb (mixL l) (4 * c + k) = mg (mixL l) c k := by unfold gb mg; rw [Nat.mod_eq_of_lt hlt]
            rw [h1, mg_mix _ _ _ hlc]
            unfold mg
            rw [Nat.mod_eq_of_lt hlt]
          have q0 := brow_cell r0 (j := 4 * c + k) (by omega)
          have q1 := brow_cell r0 (j := 4 * c + (k + 1) % 4) (by omega)
          have q2 := brow_cell r0 (j := 4 * c + (k + 2) % 4) (by omega)
          have q3 := brow_cell r0 (j := 4 * c + (k + 3) % 4) (by omega)
          have hset := hide (pt_set (gb (mixL l)) 16 (4 * c + k) (by omega))
          rw [hfv] at hset
          clear hfv
          have hq2 : Hid (∀ W : World, W.heap[w.heap.size]? = some (.cells (irow .u8 (bl (l))) 31 (0, 0)) → W.cell? ⟨w.heap.size, 4 * c + (k + 2) % 4, none⟩ = some (.int .u8 (bv (l.getD (4 * c + (k + 2) % 4) 0#8)))) := hide (fun W h => brow_cell h (by omega))
          have hq3 : Hid (∀ W : World, W.heap[w.heap.size]? = some (.cells (irow .u8 (bl (l))) 31 (0, 0)) → W.cell? ⟨w.heap.size, 4 * c + (k + 3) % 4, none⟩ = some (.int .u8 (bv (l.getD (4 * c + (k + 3) % 4) 0#8)))) := hide (fun W h => brow_cell h (by omega))
          generalize l.getD (4 * c + k) 0#8 = x0 at *
          generalize l.getD (4 * c + (k + 1) % 4) 0#8 = x1 at *
          generalize l.getD (4 * c + (k + 2) % 4) 0#8 = x2 at *
          generalize l.getD (4 * c + (k + 3) % 4) 0#8 = x3 at *
          have d0 := r_double x0
          have d1 := r_double x1
          have e1 := xor8 (dbl x0) (dbl x1)
          have e2 := xor8 (dbl x0 ^^^ dbl x1) x1
          have e3 := xor8 (dbl x0 ^^^ dbl x1 ^^^ x1) x2
          have e4 := xor8 (dbl x0 ^^^ dbl x1 ^^^ x1 ^^^ x2) x3
          generalize dbl x0 ^^^ dbl x1 ^^^ x1 ^^^ x2 ^^^ x3 = y4 at *
          generalize dbl x0 ^^^ dbl x1 ^^^ x1 ^^^ x2 = y3 at *
          generalize dbl x0 ^^^ dbl x1 ^^^ x1 = y2 at *
          generalize dbl x0 ^^^ dbl x1 = y1 at *
          go_wp2_with (fail)
          have k0 : ∀ p : Regrown, (grow (redrawn wr p.d) p.os).cell? ⟨w.heap.size, 4 * c + k, none⟩ = some (.int .u8 (bv x0)) := fun p => cell_regrown (q0) p.d p.os
          have k1 : ∀ p : Regrown, (grow (redrawn wr p.d) p.os).cell? ⟨w.heap.size, 4 * c + (k + 1) % 4, none⟩ = some (.int .u8 (bv x1)) := fun p => cell_regrown (q1) p.d p.os
          refine wp_region_quiet_below (by kernel_rfl) (by kernel_rfl) ?_
          go_big_quiet_step (fail)
          go_big_quiet_step (fail)
          go_big_quiet_step (fail)
          go_big_quiet_step (fail)
          go_big_quiet_step (fail)
          go_big_quiet_step (fail)
          go_big_quiet_step (fail)
          go_big_quiet_step (fail)
          go_big_quiet_step (fail)
          go_big_quiet_step (fail)
          go_big_quiet_step (fail)
          go_big_quiet_step (fail)
          go_big_quiet_step (fail)
          go_big_quiet_step (fail)
          go_big_quiet_step (fail)
          go_big_quiet_step (fail)
          refine wpQuiet_nil ?_
          rintro _ ⟨p, rfl⟩
          have hb := below_regrown wr p.d p.os
          generalize grow (redrawn wr p.d) p.os = w1 at *
          clear k0 k1
          replace r0 := keep hb r0
          replace r1 := keep hb r1
          replace r2 := keep hb r2
          replace hw := Below.after hw hb
          clear hb

          have q4 : w1.cell? ⟨w.heap.size, 4 * c + (k + 2) % 4, none⟩ = some (.int .u8 (bv x2)) := hq2.out w1 r0
          have q5 : w1.cell? ⟨w.heap.size, 4 * c + (k + 3) % 4, none⟩ = some (.int .u8 (bv x3)) := hq3.out w1 r0
          clear q0 q1 q2 q3
          go_wp2_with (fail)
          have k2 : ∀ p : Regrown, (grow (redrawn w1 p.d) p.os).cell? ⟨w.heap.size, 4 * c + (k + 2) % 4, none⟩ = some (.int .u8 (bv x2)) := fun p => cell_regrown (q4) p.d p.os
          have k3 : ∀ p : Regrown, (grow (redrawn w1 p.d) p.os).cell? ⟨w.heap.size, 4 * c + (k + 3) % 4, none⟩ = some (.int .u8 (bv x3)) := fun p => cell_regrown (q5) p.d p.os
          refine wp_region_tail (C := fun w' => ∃ p : Regrown, w' = grow (redrawn w1 p.d) p.os) 30 _ rfl rfl rfl (by kernel_rfl) (by kernel_rfl) (by kernel_rfl) (by kernel_rfl) ⟨⟨w1.drawn + 1, #[]⟩, by rw [grow_empty]; rfl⟩ ?_
          dsimp only [List.set, idle]
          go_big_quiet_step (fail)
          go_big_quiet_step (fail)
          go_big_quiet_step (fail)
          go_big_quiet_step (fail)
          go_big_quiet_step (fail)
          go_big_quiet_step (exact d0.re)
          go_big_quiet_step (fail)
          go_big_quiet_step (exact d1.re)
          go_big_quiet_step (fail)
          go_big_quiet_step (fail)
          go_big_quiet_step (fail)
          go_big_quiet_step (fail)
          go_big_quiet_step (fail)
          go_big_quiet_step (fail)
          go_big_quiet_step (fail)
          go_big_quiet_step (fail)
          go_big_quiet_step (fail)
          go_big_quiet_step (fail)
          go_big_quiet_step (fail)
          go_big_quiet_step (fail)
          go_big_quiet_step (fail)
          go_big_quiet_step (fail)
          go_big_quiet_step (fail)
          go_big_quiet_step (fail)
          go_big_quiet_step (fail)
          go_big_quiet_step (fail)
          go_big_quiet_step (fail)
          go_big_quiet_step (fail)
          go_big_quiet_step (fail)
          go_big_quiet_step (fail)
          refine wpQuiet_idle rfl rfl rfl ?_
          rintro _ ⟨p, rfl⟩
          have hb := below_regrown w1 p.d p.os
          generalize grow (redrawn w1 p.d) p.os = w2 at *
          clear k2 k3
          replace r0 := keep hb r0
          replace r1 := keep hb r1
          replace r2 := keep hb r2
          replace hw := Below.after hw hb
          clear hb

          have cw := brow_cell r2 (j := 4 * c + k) (by rw [pt_len]; omega)
          have hf := row_frozen r2 (4 * c + k)
          clear q4 q5 hq2 hq3
          go_wp2
          refine ⟨⟨k + 1, by omega, by go_num, heap_other r0 (by omega), heap_other r1 (by omega), by rw [← Nat.add_assoc, ← hset.out]; exact brow_set r2 (4 * c + k) _, hw.setCell (show w.heap.size ≤ w.heap.size + 1 + 1 by omega) _⟩, by simp [intOf]; omega⟩
        · obtain rfl : k = 4 := by omega
          have hd : decide ((4 : Int) < 4) = false := by decide
          go_wp2
          refine ⟨⟨c + 1, by omega, by go_num, r0, r1, r2, hw⟩, by simp [intOf]; omega⟩
    · obtain rfl : c = 4 := by omega
      have hd : decide ((4 : Int) < 4) = false := by decide
      rw [show pt (gb (mixL l)) 16 (4 * 4) = mixL l from pt_self _ (mix_len _)] at r2
      clear hc hlc
      have hi9 := info_bl infoR (mixL l) (mix_len _)
      have hfi : (irow .u8 (bl (pt (gb (mixL l)) 16 (0)))).size = (irow .u8 (bl (mixL l))).size := by rw [irow_size, irow_size, bl_len, bl_len, mix_len, pt_len]
      go_wp2_with (first | (refine wpList_load_want rfl 31 _ rfl (w.heap.size + 1 + 1) rfl 31 (irow .u8 (bl (mixL l))) (0, 0) _ r2 Try.underlying31 rfl hi9 ?_) | (refine wpList_store_row rfl 31 _ _ rfl (w.heap.size + 1) (irow .u8 (bl (mixL l))) rfl rfl 31 _ r1 hi9 hfi (irow_one _ _) ?_) | fail)
      replace r1 := setRow_heap wr (w.heap.size + 1) _ (irow .u8 (bl (mixL l))) _ _ r1
      replace hw := below_setRow hw (show w.heap.size ≤ w.heap.size + 1 by omega) (irow .u8 (bl (mixL l)))
      generalize wr.setRow (w.heap.size + 1) (irow .u8 (bl (mixL l))) = w9 at *
      exact bodyPost_ret (v := .agg (irow .u8 (bl (mixL l)))) (results_cell_row Try.results59 _ _ (w.heap.size + 1) _ _ _ _ rfl r1 Try.underlying31 rfl hi9) rfl ⟨rfl, hw⟩


set_option maxRecDepth 100000 in
set_option maxHeartbeats 4000000 in
theorem r_unmix (l : List B) (hl : l.length = 16) : Gives 47 #[.agg (irow .u8 (bl (l)))] (.agg (irow .u8 (bl (unmixL l)))) := by
  intro w
  have R0 := hp2_0 w (.cells (irow .u8 (bl (l))) 31) (.cells (irow .u8 (zr 16)) 31)
  have R1 := hp2_1 w (.cells (irow .u8 (bl (l))) 31) (.cells (irow .u8 (zr 16)) 31)
  have hw : Below w.heap.size w ((w.alloc (.cells (irow .u8 (bl (l))) 31)).alloc (.cells (irow .u8 (zr 16)) 31)) := (((Below.refl _ _).alloc (Nat.le_refl _) _).alloc (by simp) _)

  have hi0 := info_bl infoR l hl
  have hi9 := info_bl infoR (unmixL l) (unmix_len _)
  have hfi : (irow .u8 (zr 16)).size = (irow .u8 (bl (unmixL l))).size := by rw [irow_size, irow_size, bl_len, unmix_len, zr_len]
  have c1 := r_mix l hl
  have c2 := r_mix (mixL l) (mix_len _)
  have c3 := r_mix (mixL (mixL l)) (mix_len _)
  go_enter Try.func47, Try.ntmps47
  go_wp2_with (first | (refine wpList_box rfl 31 _ rfl _ rfl (bR _) ?_) | (refine wpList_alloc rfl 31 rfl (irow .u8 (zr 16)) zR ?_) | (refine wpList_load_want rfl 31 _ rfl (w.heap.size) rfl 31 (irow .u8 (bl (l))) (0, 0) _ R0 Try.underlying31 rfl hi0 ?_) | fail)
  try simp only [size_alloc1, Act.put, List.setIfInBounds_toArray, List.set_cons_succ, List.set_cons_zero]
  generalize World.alloc _ _ = w0 at *
  refine (c1.at _).mono ?_
  rintro e_ w1 ⟨rfl, hb⟩
  replace R1 := keep hb R1
  replace hw := Below.after hw hb
  clear hb

  go_wp2_with (fail)
  refine (c2.at _).mono ?_
  rintro e_ w2 ⟨rfl, hb⟩
  replace R1 := keep hb R1
  replace hw := Below.after hw hb
  clear hb

  go_wp2_with (fail)
  refine (c3.at _).mono ?_
  rintro e_ w3 ⟨rfl, hb⟩
  replace R1 := keep hb R1
  replace hw := Below.after hw hb
  clear hb

  go_wp2_with (first | (refine wpList_store_row rfl 31 _ _ rfl (w.heap.size + 1) (irow .u8 (bl (unmixL l))) rfl rfl 31 _ R1 hi9 hfi (irow_one _ _) ?_) | fail)
  replace R1 := setRow_heap w3 (w.heap.size + 1) _ (irow .u8 (bl (unmixL l))) _ _ R1
  replace hw := below_setRow hw (show w.heap.size ≤ w.heap.size + 1 by omega) (irow .u8 (bl (unmixL l)))
  generalize w3.setRow (w.heap.size + 1) (irow .u8 (bl (unmixL l))) = w9 at *
  exact bodyPost_ret (v := .agg (irow .u8 (bl (unmixL l)))) (results_cell_row Try.results47 _ _ (w.heap.size + 1) _ _ _ _ rfl R1 Try.underlying31 rfl hi9) rfl ⟨rfl, hw⟩

end Go.Proofs.Ytmldmlbmfbdjoaa


namespace Go.Proofs.Ytmldmlbmfbdjoaa
open Go Go.RowKit Go.Sort
attribute [local go_sem] setCell_drewN alloc_drewN


/-- The last k bytes counted on. -/
def cpt (l : List B) (n k : Nat) : List B := mk16 fun i => if 16 ≤ i + k then ctb l n i else gb l i
theorem cpt_len (l : List B) (n k : Nat) : (cpt l n k).length = 16 := mk16_len _
theorem cpt_zero (l : List B) (n : Nat) (hl : l.length = 16) : cpt l n 0 = l := by
  apply ext16 (cpt_len _ _ _) hl
  intro i hi
  rw [cpt, mk16_get _ hi, if_neg (by omega)]; rfl
theorem cpt_full (l : List B) (n : Nat) : cpt l n 16 = ctr l n := by
  apply ext16 (cpt_len _ _ _) (ctr_len _ _)
  intro i hi
  rw [cpt, mk16_get _ hi, if_pos (by omega), ctr, mk16_get _ hi]
theorem cpt_get (l : List B) (n k : Nat) (h : k < 16) : (cpt l n k).getD (15 - k) 0#8 = gb l (15 - k) := by
  rw [cpt, mk16_get _ (by omega), if_neg (by omega)]
theorem cpt_set (l : List B) (n k : Nat) (h : k < 16) : (cpt l n k).set (15 - k) (ctb l n (15 - k)) = cpt l n (k + 1) := by
  apply ext16 (by rw [List.length_set, cpt_len]) (cpt_len _ _ _)
  intro i hi
  rw [List.getD_eq_getElem?_getD, List.getElem?_set]
  by_cases e : 15 - k = i
  · rw [if_pos e, if_pos (by rw [cpt_len]; omega), cpt, mk16_get _ hi, if_pos (by omega), e]; rfl
  · rw [if_neg e, ← List.getD_eq_getElem?_getD, cpt, mk16_get _ hi, cpt, mk16_get _ hi]
    by_cases g : 16 ≤ i + k
    · rw [if_pos g, if_pos (by omega)]
    · rw [if_neg g, if_neg (by omega)]
theorem cr_stay (l : List B) (n k : Nat) (h : cr l n k = 0) : ∀ j, cr l n (k + j) = 0 := by
  intro j
  induction j with
  | zero => exact h
  | succ j ih =>
    rw [← Nat.add_assoc, cr, ih]
    have := (gb l (15 - (k + j))).isLt
    omega
/-- Where nothing is carried any more the other bytes stay. -/
theorem cpt_done (l : List B) (n k : Nat) (h : cr l n k = 0) (_hk : k ≤ 16) : cpt l n k = ctr l n := by
  apply ext16 (cpt_len _ _ _) (ctr_len _ _)
  intro i hi
  rw [cpt, mk16_get _ hi, ctr, mk16_get _ hi]
  by_cases g : 16 ≤ i + k
  · rw [if_pos g]
  · rw [if_neg g, ctb]
    have := cr_stay l n k h (15 - i - k)
    rw [show k + (15 - i - k) = 15 - i by omega] at this
    rw [this, Nat.zero_add, BitVec.ofNat_toNat, BitVec.setWidth_eq]
theorem cr_lt (l : List B) (n : Nat) (hn : n < 1152921504606846976) (k : Nat) : cr l n k < 1152921504606846976 := by
  induction k with
  | zero => exact hn
  | succ k ih =>
    rw [cr]
    have := (gb l (15 - k)).isLt
    omega
theorem bv_ctb (l : List B) (n k : Nat) (_hk : k < 16) : ((cr l n k : Int) + bv (gb l (15 - k))) % 256 = bv (ctb l n (15 - k)) := by
  unfold bv ctb
  rw [BitVec.toNat_ofNat, show 15 - (15 - k) = k by omega]
  omega
theorem bv_crn (l : List B) (n k : Nat) : ((cr l n k : Int) + bv (gb l (15 - k))) / 256 = ((cr l n (k + 1) : Nat) : Int) := by
  unfold bv
  rw [cr]
  omega

set_option maxRecDepth 100000 in
set_option maxHeartbeats 4000000 in
theorem a_further (l : List B) (hl : l.length = 16) (n : Nat) (hn : n < 1152921504606846976) : Gives 49 #[.agg (irow .u8 (bl (l))), .int .u64 (n : Int)] (.agg (irow .u8 (bl (ctr l n)))) := by
  intro w
  have R0 := hp2_0 w (.cells (irow .u8 (bl (l))) 28) (.cells (irow .u8 (zr 16)) 28)
  have R1 := hp2_1 w (.cells (irow .u8 (bl (l))) 28) (.cells (irow .u8 (zr 16)) 28)
  have hw : Below w.heap.size w ((w.alloc (.cells (irow .u8 (bl (l))) 28)).alloc (.cells (irow .u8 (zr 16)) 28)) := (((Below.refl _ _).alloc (Nat.le_refl _) _).alloc (by simp) _)

  go_enter Try.func49, Try.ntmps49
  go_wp2_with (first | (refine wpList_box rfl 28 _ rfl _ rfl (bBl _) ?_) | (refine wpList_alloc rfl 28 rfl (irow .u8 (zr 16)) zBl ?_) | fail)
  try simp only [size_alloc1, Act.put, List.setIfInBounds_toArray, List.set_cons_succ, List.set_cons_zero]
  generalize World.alloc _ _ = w0 at *
  go_loopw [1, 5] (fun m i wr => ∃ k : Nat, k ≤ 16 ∧ i = .int .i64 (15 - (k : Int)) ∧ m = .int .u64 ((cr l n k : Nat) : Int) ∧ wr.heap[w.heap.size]? = some (.cells (irow .u8 (bl (cpt l n k))) 28 (0, 0)) ∧ wr.heap[w.heap.size + 1]? = some (.cells (irow .u8 (zr 16)) 28 (0, 0)) ∧ Below w.heap.size w wr) (fun _ i _ => (intOf i + 1).toNat)
  case atStart => exact ⟨0, by omega, rfl, rfl, by rw [cpt_zero l n hl]; exact R0, R1, hw⟩
  case round =>
    clear R0 R1 hw
    obtain ⟨k, hk, rfl, rfl, r0, r1, hw⟩ := hrel
    have hcl := cr_lt l n hn k
    by_cases hlt : k < 16
    · have hd : decide (15 - (k : Int) ≥ 0) = true := by simp; omega
      by_cases h0 : cr l n k = 0
      · rw [cpt_done l n k h0 hk] at r0
        have hd2 : decide (((cr l n k : Nat) : Int) > 0) = false := by simp; omega
        rw [h0]
        clear hcl h0 hd2
        have hd2 : decide (((0 : Nat) : Int) > 0) = false := by decide
        have hi9 := info_bl infoB (ctr l n) (ctr_len _ _)
        have hfi : (irow .u8 (zr 16)).size = (irow .u8 (bl (ctr l n))).size := by rw [irow_size, irow_size, zr_len, bl_len, ctr_len]
        go_wp2_with (first | (refine wpList_load_want rfl 28 _ rfl (w.heap.size) rfl 28 (irow .u8 (bl (ctr l n))) (0, 0) _ r0 Try.underlying28 rfl hi9 ?_) | (refine wpList_store_row rfl 28 _ _ rfl (w.heap.size + 1) (irow .u8 (bl (ctr l n))) rfl rfl 28 _ r1 hi9 hfi (irow_one _ _) ?_) | fail)
        replace r1 := setRow_heap wr (w.heap.size + 1) _ (irow .u8 (bl (ctr l n))) _ _ r1
        replace hw := below_setRow hw (show w.heap.size ≤ w.heap.size + 1 by omega) (irow .u8 (bl (ctr l n)))
        generalize wr.setRow (w.heap.size + 1) (irow .u8 (bl (ctr l n))) = w9 at *
        exact bodyPost_ret (v := .agg (irow .u8 (bl (ctr l n)))) (results_cell_row Try.results49 _ _ (w.heap.size + 1) _ _ _ _ rfl r1 Try.underlying28 rfl hi9) rfl ⟨rfl, hw⟩

      · have hd2 : decide (((cr l n k : Nat) : Int) > 0) = true := by simp; omega
        have hto : (15 - (k : Int)).toNat = 15 - k := by omega
        have c0 := brow_cell r0 (j := 15 - k) (by rw [cpt_len]; omega)
        rw [cpt_get l n k hlt] at c0
        have e1 := bv_ctb l n k hlt
        have e2 := bv_crn l n k
        have b0 := bnd (gb l (15 - k))
        have hset := hide (cpt_set l n k hlt)
        have hf := row_frozen r0 (15 - k)
        have hbd : 0 ≤ 15 - (k : Int) ∧ 15 - (k : Int) < 16 := by omega
        generalize hN : cr l n (k + 1) = N1 at *
        replace hN := hide hN
        generalize ctb l n (15 - k) = x1 at *
        generalize gb l (15 - k) = x0 at *
        generalize cr l n k = N0 at *
        go_wp2
        refine ⟨⟨k + 1, by omega, by congr 1; omega, by rw [hN.out], by rw [← hset.out]; exact brow_set r0 (15 - k) x1, heap_other r1 (by omega), hw.setCell (Nat.le_refl _) _⟩, by simp [intOf]; omega⟩
    · obtain rfl : k = 16 := by omega
      have hd : decide (15 - ((16 : Nat) : Int) ≥ 0) = false := by decide
      rw [cpt_full] at r0
      generalize cr l n 16 = N0 at *
      clear hk hlt
      have hi9 := info_bl infoB (ctr l n) (ctr_len _ _)
      have hfi : (irow .u8 (zr 16)).size = (irow .u8 (bl (ctr l n))).size := by rw [irow_size, irow_size, zr_len, bl_len, ctr_len]
      go_wp2_with (first | (refine wpList_load_want rfl 28 _ rfl (w.heap.size) rfl 28 (irow .u8 (bl (ctr l n))) (0, 0) _ r0 Try.underlying28 rfl hi9 ?_) | (refine wpList_store_row rfl 28 _ _ rfl (w.heap.size + 1) (irow .u8 (bl (ctr l n))) rfl rfl 28 _ r1 hi9 hfi (irow_one _ _) ?_) | fail)
      replace r1 := setRow_heap wr (w.heap.size + 1) _ (irow .u8 (bl (ctr l n))) _ _ r1
      replace hw := below_setRow hw (show w.heap.size ≤ w.heap.size + 1 by omega) (irow .u8 (bl (ctr l n)))
      generalize wr.setRow (w.heap.size + 1) (irow .u8 (bl (ctr l n))) = w9 at *
      exact bodyPost_ret (v := .agg (irow .u8 (bl (ctr l n)))) (results_cell_row Try.results49 _ _ (w.heap.size + 1) _ _ _ _ rfl r1 Try.underlying28 rfl hi9) rfl ⟨rfl, hw⟩


def cft (l : List B) (n k : Nat) : List B := mk16 fun i => if 16 ≤ i + k then ctb l n i else 0#8
theorem cft_len (l : List B) (n k : Nat) : (cft l n k).length = 16 := mk16_len _
theorem cft_zero (l : List B) (n : Nat) : bl (cft l n 0) = zr 16 := by
  rw [← bl_zr]
  congr 1
theorem cft_full (l : List B) (n : Nat) : cft l n 16 = ctr l n := by
  apply ext16 (cft_len _ _ _) (ctr_len _ _)
  intro i hi
  rw [cft, mk16_get _ hi, if_pos (by omega), ctr, mk16_get _ hi]
theorem cft_set (l : List B) (n k : Nat) (h : k < 16) : (cft l n k).set (15 - k) (ctb l n (15 - k)) = cft l n (k + 1) := by
  apply ext16 (by rw [List.length_set, cft_len]) (cft_len _ _ _)
  intro i hi
  rw [List.getD_eq_getElem?_getD, List.getElem?_set]
  by_cases e : 15 - k = i
  · rw [if_pos e, if_pos (by rw [cft_len]; omega), cft, mk16_get _ hi, if_pos (by omega), e]; rfl
  · rw [if_neg e, ← List.getD_eq_getElem?_getD, cft, mk16_get _ hi, cft, mk16_get _ hi]
    by_cases g : 16 ≤ i + k
    · rw [if_pos g, if_pos (by omega)]
    · rw [if_neg g, if_neg (by omega)]
theorem bNo (cs : Array Value) (W : World) : (Instr.box 41 (.agg cs)).run Try.prog W = .ok (.pointer (some ⟨W.heap.size, 0, none⟩)) (W.alloc (.cells cs 41)) := by kernel_rfl
theorem infoN : (Try.prog.info? 41).map (·.size) = some 16 := by kernel_rfl
set_option maxRecDepth 100000 in
set_option maxHeartbeats 4000000 in
theorem r_counter (l : List B) (hl : l.length = 16) (n : Nat) (hn : n < 18446744073709551616) : Gives 48 #[.agg (irow .u8 (bl (l))), .int .u64 (n : Int)] (.agg (irow .u8 (bl (ctr l n)))) := by
  intro w
  have R0 := hp3_0 w (.cells (irow .u8 (bl (l))) 41) (.cells (irow .u8 (zr 16)) 31) (.cells (irow .u8 (zr 16)) 31)
  have R1 := hp3_1 w (.cells (irow .u8 (bl (l))) 41) (.cells (irow .u8 (zr 16)) 31) (.cells (irow .u8 (zr 16)) 31)
  have R2 := hp3_2 w (.cells (irow .u8 (bl (l))) 41) (.cells (irow .u8 (zr 16)) 31) (.cells (irow .u8 (zr 16)) 31)
  have hw : Below w.heap.size w (((w.alloc (.cells (irow .u8 (bl (l))) 41)).alloc (.cells (irow .u8 (zr 16)) 31)).alloc (.cells (irow .u8 (zr 16)) 31)) := ((((Below.refl _ _).alloc (Nat.le_refl _) _).alloc (by simp) _).alloc (by simp; omega) _)

  go_enter Try.func48, Try.ntmps48
  go_wp2_with (first | (refine wpList_box rfl 41 _ rfl _ rfl (bNo _) ?_) | (refine wpList_alloc rfl 31 rfl (irow .u8 (zr 16)) zR ?_) | fail)
  try simp only [size_alloc1, Act.put, List.setIfInBounds_toArray, List.set_cons_succ, List.set_cons_zero]
  generalize World.alloc _ _ = w0 at *
  go_loopw [1, 6, 7] (fun m c i wr => ∃ k M C : Nat, k ≤ 16 ∧ i = .int .i64 (15 - (k : Int)) ∧ m = .int .u64 (M : Int) ∧ c = .int .u64 (C : Int) ∧ C ≤ 1 ∧ M < 18446744073709551616 ∧ Hid (M + C = cr l n k) ∧ wr.heap[w.heap.size]? = some (.cells (irow .u8 (bl (l))) 41 (0, 0)) ∧ wr.heap[w.heap.size + 1]? = some (.cells (irow .u8 (zr 16)) 31 (0, 0)) ∧ wr.heap[w.heap.size + 1 + 1]? = some (.cells (irow .u8 (bl (cft l n k))) 31 (0, 0)) ∧ Below w.heap.size w wr) (fun _ _ i _ => (intOf i + 1).toNat)
  case atStart => exact ⟨0, n, 0, by omega, rfl, rfl, rfl, by omega, hn, hide rfl, R0, R1, by rw [cft_zero]; exact R2, hw⟩
  case round =>
    clear R0 R1 R2 hw
    obtain ⟨k, M, C, hk, rfl, rfl, rfl, hC, hM, hMC, r0, r1, r2, hw⟩ := hrel
    by_cases hlt : k < 16
    · have hd : decide (15 - (k : Int) ≥ 0) = true := by simp; omega
      have hto : (15 - (k : Int)).toNat = 15 - k := by omega
      have c0 := brow_cell r0 (j := 15 - k) (by omega)
      rw [show l.getD (15 - k) 0#8 = gb l (15 - k) from rfl] at c0
      have hset := hide (cft_set l n k hlt)
      have hbd : 0 ≤ 15 - (k : Int) ∧ 15 - (k : Int) < 16 := by omega
      have hx : Hid ((bv (gb l (15 - k)) + (M : Int) % 256 + (C : Int)) % 256 = bv (ctb l n (15 - k))) := hide (by
        rw [← bv_ctb l n k hlt, ← hMC.out]; have := bnd (gb l (15 - k)); omega)
      have hx2 : Hid (M / 256 + (((gb l (15 - k)).toNat + M % 256 + C) / 256) = cr l n (k + 1)) := hide (by
        rw [cr, ← hMC.out]; have := (gb l (15 - k)).isLt; omega)
      have e3 : bv (gb l (15 - k)) = ((gb l (15 - k)).toNat : Int) := rfl
      have b3 := (gb l (15 - k)).isLt
      have cw := brow_cell r2 (j := 15 - k) (by rw [cft_len]; omega)
      have hf := row_frozen r2 (15 - k)
      rw [e3] at hx c0
      generalize ctb l n (15 - k) = x1 at *
      generalize (gb l (15 - k)).toNat = x0 at *
      clear e3
      go_wp2
      refine ⟨⟨k + 1, M / 256, (x0 + M % 256 + C) / 256, by omega, by congr 1; omega, by congr 1, by congr 1, by omega, by omega, hx2, heap_other r0 (by omega), heap_other r1 (by omega), by rw [hx.out, ← hset.out]; exact brow_set r2 (15 - k) x1, hw.setCell (show w.heap.size ≤ w.heap.size + 1 + 1 by omega) _⟩, by simp [intOf]; omega⟩
    · obtain rfl : k = 16 := by omega
      have hd : decide (15 - ((16 : Nat) : Int) ≥ 0) = false := by decide
      rw [cft_full] at r2
      clear hk hlt
      have hi9 := info_bl infoR (ctr l n) (ctr_len _ _)
      have hfi : (irow .u8 (zr 16)).size = (irow .u8 (bl (ctr l n))).size := by rw [irow_size, irow_size, bl_len, ctr_len, zr_len]
      go_wp2_with (first | (refine wpList_load_want rfl 31 _ rfl (w.heap.size + 1 + 1) rfl 31 (irow .u8 (bl (ctr l n))) (0, 0) _ r2 Try.underlying31 rfl hi9 ?_) | (refine wpList_store_row rfl 31 _ _ rfl (w.heap.size + 1) (irow .u8 (bl (ctr l n))) rfl rfl 31 _ r1 hi9 hfi (irow_one _ _) ?_) | fail)
      replace r1 := setRow_heap wr (w.heap.size + 1) _ (irow .u8 (bl (ctr l n))) _ _ r1
      replace hw := below_setRow hw (show w.heap.size ≤ w.heap.size + 1 by omega) (irow .u8 (bl (ctr l n)))
      generalize wr.setRow (w.heap.size + 1) (irow .u8 (bl (ctr l n))) = w9 at *
      exact bodyPost_ret (v := .agg (irow .u8 (bl (ctr l n)))) (results_cell_row Try.results48 _ _ (w.heap.size + 1) _ _ _ _ rfl r1 Try.underlying31 rfl hi9) rfl ⟨rfl, hw⟩


/-- Bytes of the data, with their bounds. -/
def BysB (W : World) (v : Value) (bs : List B) : Prop := Bys W v (bl bs) ∧ bs.length ≤ 140737488351232 ∧ (∀ a l c, v = .slice a l c → a = none → c = 0)
theorem BysB.keep {W W' : World} {v : Value} {bs : List B} (h : BysB W v bs) (hb : Below W.heap.size W W') : BysB W' v bs := ⟨h.1.keep hb, h.2⟩
/-- A list of its own. -/
def Own (W : World) (b : Nat) (v : Value) (d : List B) : Prop := W.ownsRow b 5 1 v d.length ((bl d).map (Value.int .u8))
set_option maxHeartbeats 2000000 in
theorem a_clone2 (d : List B) (w : World) (v : Value) (hB : BysB w v d) : Calls Try.prog 50 #[v] w fun e w' => ∃ u, e = .returned u ∧ (Own w' w.heap.size u d ∧ (∀ ad l c, v = .slice (some ad) l c → u ≠ .slice none 0 0)) ∧ Below w.heap.size w w' := by
  obtain ⟨⟨ao, cap, rfl, hl, hc, hz⟩, hlen, hnil⟩ := hB
  obtain ⟨i0, hi, hz0, hz1, hz2⟩ := info8
  rw [bl_len] at *
  cases ao with
  | none =>
    obtain rfl := hnil none _ _ rfl rfl
    have h0 : d.length = 0 := by
      rcases Nat.eq_zero_or_pos d.length with h | h
      · exact h
      · obtain ⟨b, off, e, _⟩ := hc 0 h
        cases e
    obtain rfl : d = [] := List.length_eq_zero_iff.1 h0
    clear hc
    have heq : ∀ W : World, (binOp .eql 43 (.slice none 0 0) (.slice none 0 0)).run Try.prog W = .ok (.bool true) W := fun W => by kernel_rfl
    go_enter Try.func50, Try.ntmps50
    go_wp2
    go_ret
    exact ⟨_, rfl, ⟨⟨rfl, .inl ⟨rfl, rfl⟩⟩, fun ad l c h => by cases h⟩, Below.refl _ _⟩
  | some ad =>
    have heq : ∀ W : World, (binOp .eql 43 (.slice (some ad) d.length cap) (.slice none 0 0)).run Try.prog W = .ok (.bool false) W := fun W => by kernel_rfl
    have hcell : ∀ W : World, Below w.heap.size w W → ∀ j u, ((bl d).map (Value.int .u8))[j]? = some u → W.cell? (ad.add j) = some u := fun W hW j u hu => by
      have hj : j < d.length := by
        have := (List.getElem?_eq_some_iff.1 hu).1
        simpa [bl_len] using this
      obtain ⟨b, off, e', hb, hcl⟩ := hc j hj
      obtain rfl : ad = ⟨b, off, none⟩ := Option.some.inj e'
      have : u = .int .u8 ((bl d).getD j 0) := by
        have hj' : j < (bl d).length := by rw [bl_len]; exact hj
        simp only [List.getElem?_map, List.getElem?_eq_getElem hj', Option.map_some, Option.some.injEq] at hu
        rw [← hu, List.getD_eq_getElem?_getD, List.getElem?_eq_getElem hj']; rfl
      rw [this, addr_add]
      exact (hW.cell hb).trans hcl
    replace hcell := hide hcell
    clear hc
    go_enter Try.func50, Try.ntmps50
    have hb0 : Below w.heap.size w (w.alloc (.cells #[] 5)) := (Below.refl _ _).alloc (Nat.le_refl _) _
    have hown0 : (w.alloc (.cells #[] 5)).ownsRow w.heap.size 5 1 (.slice (some ⟨w.heap.size, 0, none⟩) 0 0) 0 [] := ⟨rfl, .inr ⟨w.heap.size, 0, #[], rfl, Nat.le_refl _, hp1_0 w _, Nat.le_refl _, by decide, rfl, rfl⟩⟩
    go_wp2_with (at_builtin; refine wpList_append_own _ rfl (.tmp 5) (.tmp 6) 43 rfl w.heap.size 5 i0 (.int .u8 0) 1 1 Try.underlying43 hi hz0 hz1 hz2 rfl (by decide) (.slice (some ⟨w.heap.size, 0, none⟩) 0 0) 0 [] rfl hown0 ad d.length cap ((bl d).map (Value.int .u8)) rfl (by simp [bl_len]) (hcell.out _ hb0) (ints_one .u8 _) (by unfold maxLen; omega) (by omega) hb0.size ?_)
    intro v' w1 hown2 hgrow hnn
    have hn2 : Hid (v' ≠ .slice none 0 0) := hide hnn
    clear hnn
    have hw := hb0.grown hgrow hb0.size (fun k h => (hown0.lt k h).1)
    clear hgrow
    obtain ⟨ao', cap', rfl⟩ := slen_own hown2
    go_wp2
    go_ret
    refine ⟨_, rfl, ⟨?_, fun _ _ _ _ => hn2.out⟩, hw⟩
    unfold Own
    simpa using hown2
theorem a_clone (d : List B) (w : World) (v : Value) (hB : BysB w v d) : Calls Try.prog 50 #[v] w fun e w' => ∃ u, e = .returned u ∧ Own w' w.heap.size u d ∧ Below w.heap.size w w' := (a_clone2 d w v hB).mono fun _ _ ⟨u, h1, h2, h3⟩ => ⟨u, h1, h2.1, h3⟩

end Go.Proofs.Ytmldmlbmfbdjoaa


namespace Go.Proofs.Ytmldmlbmfbdjoaa
open Go Go.RowKit Go.Sort
attribute [local go_sem] setCell_drewN alloc_drewN


/-! A state's cells; a cipher's cells. -/
def srow (ws : List Wd) (g : Nat) (r : Int) : Array Value := irow .u32 (wl ws) ++ #[.pointer (some ⟨g, 0, none⟩), .int .i64 r]
theorem srow_size (ws : List Wd) (g : Nat) (r : Int) : (srow ws g r).size = ws.length + 2 := by simp [srow, irow_size, wl_len]
theorem srow_one (ws : List Wd) (g : Nat) (r : Int) : (srow ws g r).all (·.oneCell') = true := by
  rw [srow, Array.all_append, irow_one]; simp [Value.oneCell']
theorem srow_cell {W : World} {b g : Nat} {ws : List Wd} {r : Int} {t : TypeId} (hg : W.heap[b]? = some (.cells (srow ws g r) t (0, 0))) {j : Nat} (hj : j < ws.length) : W.cell? ⟨b, j, none⟩ = some (.int .u32 (wv (ws.getD j 0#32))) := by
  rw [cell_of_row W b j _ t (0, 0) hg, srow, Array.getElem?_append_left (by rw [irow_size, wl_len]; exact hj), irow_get _ _ _ (by rw [wl_len]; exact hj), wl_get]
theorem srow_ptr {W : World} {b g : Nat} {ws : List Wd} {r : Int} {t : TypeId} (hg : W.heap[b]? = some (.cells (srow ws g r) t (0, 0))) (hl : ws.length = 4) : W.cell? ⟨b, 4, none⟩ = some (.pointer (some ⟨g, 0, none⟩)) := by
  rw [cell_of_row W b 4 _ t (0, 0) hg, srow, Array.getElem?_append_right (by rw [irow_size, wl_len, hl]; omega), irow_size, wl_len, hl]; rfl
theorem srow_rnd {W : World} {b g : Nat} {ws : List Wd} {r : Int} {t : TypeId} (hg : W.heap[b]? = some (.cells (srow ws g r) t (0, 0))) (hl : ws.length = 4) : W.cell? ⟨b, 5, none⟩ = some (.int .i64 r) := by
  rw [cell_of_row W b 5 _ t (0, 0) hg, srow, Array.getElem?_append_right (by rw [irow_size, wl_len, hl]; omega), irow_size, wl_len, hl]; rfl
theorem srow_put (ws : List Wd) (g : Nat) (r : Int) (j : Nat) (z : Wd) (hj : j < ws.length) : (srow ws g r).setIfInBounds j (.int .u32 (wv z)) = srow (ws.set j z) g r := by
  rw [srow, Array.setIfInBounds_append_left (by rw [irow_size, wl_len]; exact hj), srow, ← wl_set]
  congr 1
  simp [irow, List.map_set]
theorem srow_set {W : World} {b g : Nat} {ws : List Wd} {r : Int} {t : TypeId} (hg : W.heap[b]? = some (.cells (srow ws g r) t (0, 0))) (j : Nat) (z : Wd) (hj : j < ws.length) : (W.setCell ⟨b, j, none⟩ (.int .u32 (wv z))).heap[b]? = some (.cells (srow (ws.set j z) g r) t (0, 0)) := by
  rw [heap_setCell_same W b j _ t _ hg, srow_put _ _ _ _ _ hj]
theorem srow_setr {W : World} {b g : Nat} {ws : List Wd} {r : Int} {t : TypeId} (hg : W.heap[b]? = some (.cells (srow ws g r) t (0, 0))) (hl : ws.length = 4) (z : Int) : (W.setCell ⟨b, 5, none⟩ (.int .i64 z)).heap[b]? = some (.cells (srow ws g z) t (0, 0)) := by
  rw [heap_setCell_same W b 5 _ t _ hg, srow, Array.setIfInBounds_append_right (by rw [irow_size, wl_len, hl]; omega), irow_size, wl_len, hl]; rfl
theorem infoS : (Try.prog.info? 73).map (·.size) = some 6 := by kernel_rfl
theorem info_sr (ws : List Wd) (g : Nat) (r : Int) (hl : ws.length = 4) : (Try.prog.info? 73).map (·.size) = some (srow ws g r).size := by
  rw [srow_size, hl]; exact infoS
/-- A state of nothing. -/
def zst : Array Value := #[.int .u32 0, .int .u32 0, .int .u32 0, .int .u32 0, .pointer none, .int .i64 0]
theorem zSt (W : World) : (Instr.alloc 73 true (.tuple #[])).run Try.prog W = .ok (.pointer (some ⟨W.heap.size, 0, none⟩)) (W.alloc (.cells zst 73)) := by kernel_rfl
theorem bSt (cs : Array Value) (W : World) : (Instr.box 73 (.agg cs)).run Try.prog W = .ok (.pointer (some ⟨W.heap.size, 0, none⟩)) (W.alloc (.cells cs 73)) := by kernel_rfl
theorem srow_cols (ws : List Wd) (g : Nat) (r : Int) : (srow ws g r).extract 0 (0 + (irow .u32 (wl ws)).size) = irow .u32 (wl ws) := by
  rw [srow, Nat.zero_add]; simp
/-- A cipher's cells: the keys of its rounds, Sub and Back. -/
def cph (K : List B) : Array Value := irow .u32 (wl (wos K 60)) ++ (irow .u8 (bl sbl) ++ irow .u8 (bl bkl))
def Cph (W : World) (g : Nat) (K : List B) : Prop := W.heap[g]? = some (.cells (cph K) 65 (0, 0))
theorem Cph.keep {w W : World} {g : Nat} {K : List B} (h : Cph w g K) (hb : Below w.heap.size w W) : Cph W g K := Go.Proofs.Ytmldmlbmfbdjoaa.keep hb h
theorem Cph.sub {W : World} {g : Nat} {K : List B} (h : Cph W g K) (x : B) : W.cell? ⟨g, 60 + x.toNat, none⟩ = some (.int .u8 (bv (sb x))) := by
  have hx := x.isLt
  rw [cell_of_row W g _ _ _ (0, 0) h, cph, Array.getElem?_append_right (by rw [irow_size, wl_len, wos_len]; omega), Array.getElem?_append_left (by rw [irow_size, irow_size, wl_len, wos_len, bl_len, sbl_len]; omega), irow_size, wl_len, wos_len, show 60 + x.toNat - 60 = x.toNat by omega, irow_get _ _ _ (by rw [bl_len, sbl_len]; exact hx), bl_get, sbl_get]
theorem Cph.back {W : World} {g : Nat} {K : List B} (h : Cph W g K) (x : B) : W.cell? ⟨g, 316 + x.toNat, none⟩ = some (.int .u8 (bv (bk x))) := by
  have hx := x.isLt
  rw [cell_of_row W g _ _ _ (0, 0) h, cph, Array.getElem?_append_right (by rw [irow_size, wl_len, wos_len]; omega), Array.getElem?_append_right (by rw [irow_size, irow_size, wl_len, wos_len, bl_len, sbl_len]; omega), irow_size, wl_len, wos_len, irow_size, bl_len, sbl_len, show 316 + x.toNat - 60 - 256 = x.toNat by omega, irow_get _ _ _ (by rw [bl_len, bkl_len]; exact hx), bl_get, bkl_get]
/-- The words of the key of a round. -/
def kws (K : List B) (r : Nat) : List Wd := (List.range 4).map fun j => wo K (4 * r + j)
theorem kws_len (K : List B) (r : Nat) : (kws K r).length = 4 := by simp [kws]
theorem kws_get (K : List B) (r j : Nat) (h : j < 4) : (kws K r).getD j 0#32 = wo K (4 * r + j) := by
  simp [kws, List.getD_eq_getElem?_getD, h]
theorem cph_size (K : List B) : (cph K).size = 572 := by
  rw [cph, Array.size_append, Array.size_append, irow_size, irow_size, irow_size, wl_len, wos_len, bl_len, bl_len, sbl_len, bkl_len]
theorem cph_key (K : List B) (r : Nat) (hr : r < 15) : (cph K).extract (4 * r) (4 * r + (irow .u32 (wl (kws K r))).size) = irow .u32 (wl (kws K r)) := by
  apply Array.ext_getElem?
  intro j
  rw [irow_size, wl_len, kws_len]
  by_cases hj : j < 4
  · have hs := cph_size K
    have hlt : j < min (4 * r + 4) (cph K).size - 4 * r := by rw [hs]; omega
    rw [Array.getElem?_extract, if_pos hlt]
    clear hlt hs
    rw [cph, Array.getElem?_append_left (by rw [irow_size, wl_len, wos_len]; omega), irow_get _ _ _ (by rw [wl_len, wos_len]; omega), wl_get, wos_get _ _ _ (by omega), irow_get _ _ _ (by rw [wl_len, kws_len]; exact hj), wl_get, kws_get _ _ _ hj]
  · rw [Array.getElem?_eq_none (by rw [Array.size_extract]; omega), Array.getElem?_eq_none (by rw [irow_size, wl_len, kws_len]; omega)]
/-- Four words, the first k turned by f. -/
def up (f : Nat → Wd) (l : List B) (k : Nat) : List Wd := (List.range 4).map fun j => if j < k then f j else wo l j
theorem up_len (f : Nat → Wd) (l : List B) (k : Nat) : (up f l k).length = 4 := by simp [up]
theorem up_zero (f : Nat → Wd) (l : List B) : up f l 0 = wos l 4 := by
  apply List.map_congr_left
  intro j _
  rw [if_neg (by omega)]
theorem up_full (l m : List B) : up (wo m) l 4 = wos m 4 := by
  apply List.map_congr_left
  intro j hj
  rw [List.mem_range] at hj
  rw [if_pos hj]
theorem up_get (f : Nat → Wd) (l : List B) (k : Nat) (h : k < 4) : (up f l k).getD k 0#32 = wo l k := by
  simp [up, List.getD_eq_getElem?_getD, h]
theorem up_set (f : Nat → Wd) (l : List B) (k : Nat) (h : k < 4) : (up f l k).set k (f k) = up f l (k + 1) := by
  apply List.ext_getElem?
  intro j
  rw [List.getElem?_set]
  by_cases e : k = j
  · subst e
    rw [if_pos rfl, if_pos (by rw [up_len]; exact h)]
    simp [up, h]
  · rw [if_neg e]
    simp only [up, List.getElem?_map]
    by_cases hj : j < 4
    · simp only [List.getElem?_range hj, Option.map_some]
      by_cases h1 : j < k
      · rw [if_pos h1, if_pos (by omega)]
      · rw [if_neg h1, if_neg (by omega)]
    · rw [List.getElem?_eq_none (by simp; omega)]; rfl
theorem indexC (ws : List Wd) (hl : ws.length = 4) (j : Nat) (hj : j < 4) (W : World) : (Instr.index 62 (.agg (irow .u32 (wl ws))) (.int .i64 (j : Int))).run Try.prog W = .ok (.int .u32 (wv (ws.getD j 0#32))) W := by
  obtain ⟨i0, hi⟩ : ∃ i, Try.prog.info? 60 = some i := ⟨_, rfl⟩
  rw [← wl_get]
  exact index_row Try.underlying62 Try.underlying60 hi (fun W => by kernel_rfl) (wl ws) (by rw [wl_len, hl]) j hj W
/-! The steps, word by word. -/
theorem wo_xor (l m : List B) (k : Nat) (h : k < 4) : wo (xorL l m) k = wo l k ^^^ wo m k := by
  rw [wo, wo, wo, wd_xor, xorL_get _ _ (by omega), xorL_get _ _ (by omega), xorL_get _ _ (by omega), xorL_get _ _ (by omega)]
theorem wo_kr (K : List B) (r k : Nat) (h : k < 4) : wo (kr K r) k = wo K (4 * r + k) := by
  rw [wo, wo, kr, mk16_get _ (by omega), mk16_get _ (by omega), mk16_get _ (by omega), mk16_get _ (by omega), show 16 * r + 4 * k = 4 * (4 * r + k) by omega, show 16 * r + (4 * k + 1) = 4 * (4 * r + k) + 1 by omega, show 16 * r + (4 * k + 2) = 4 * (4 * r + k) + 2 by omega, show 16 * r + (4 * k + 3) = 4 * (4 * r + k) + 3 by omega]
theorem wo_sub (l : List B) (k : Nat) (h : k < 4) : wo (subL l) k = wd (sb (l.getD (4 * k) 0#8)) (sb (l.getD (4 * k + 1) 0#8)) (sb (l.getD (4 * k + 2) 0#8)) (sb (l.getD (4 * k + 3) 0#8)) := by
  rw [wo, subL_get _ (by omega), subL_get _ (by omega), subL_get _ (by omega), subL_get _ (by omega)]
theorem wo_unsub (l : List B) (k : Nat) (h : k < 4) : wo (unsubL l) k = wd (bk (l.getD (4 * k) 0#8)) (bk (l.getD (4 * k + 1) 0#8)) (bk (l.getD (4 * k + 2) 0#8)) (bk (l.getD (4 * k + 3) 0#8)) := by
  rw [wo, unsubL_get _ (by omega), unsubL_get _ (by omega), unsubL_get _ (by omega), unsubL_get _ (by omega)]
theorem wo_shift (l : List B) (k : Nat) (h : k < 4) : wo (shiftL l) k = wd (l.getD (4 * k) 0#8) (l.getD (4 * ((k + 1) % 4) + 1) 0#8) (l.getD (4 * ((k + 2) % 4) + 2) 0#8) (l.getD (4 * ((k + 3) % 4) + 3) 0#8) := by
  rw [wo, shiftL_get _ (by omega), shiftL_get _ (by omega), shiftL_get _ (by omega), shiftL_get _ (by omega)]
  congr 2 <;> omega
theorem wo_unshift (l : List B) (k : Nat) (h : k < 4) : wo (unshiftL l) k = wd (l.getD (4 * k) 0#8) (l.getD (4 * ((k + 3) % 4) + 1) 0#8) (l.getD (4 * ((k + 2) % 4) + 2) 0#8) (l.getD (4 * ((k + 1) % 4) + 3) 0#8) := by
  rw [wo, unshiftL_get _ (by omega), unshiftL_get _ (by omega), unshiftL_get _ (by omega), unshiftL_get _ (by omega)]
  congr 2 <;> omega
theorem wo_mix (l : List B) (k : Nat) (h : k < 4) (a b c d : B) (ha : a = l.getD (4 * k) 0#8) (hb : b = l.getD (4 * k + 1) 0#8) (hc : c = l.getD (4 * k + 2) 0#8) (hd : d = l.getD (4 * k + 3) 0#8) :
    wo (mixL l) k = wd (dbl (a ^^^ b)) (dbl (b ^^^ c)) (dbl (c ^^^ d)) (dbl (d ^^^ a)) ^^^ wd b c d a ^^^ wd c d a b ^^^ wd d a b c := by
  have q : ∀ r < 4, (mixL l).getD (4 * k + r) 0#8 = mg (mixL l) k r := fun r hr => by unfold mg; rw [Nat.mod_eq_of_lt hr]
  have m0 : ∀ r, mg l k (r + 4) = mg l k r := mg_add4 l k
  have e0 : mg l k 0 = a := by rw [ha]; rfl
  have e1 : mg l k 1 = b := by rw [hb]; rfl
  have e2 : mg l k 2 = c := by rw [hc]; rfl
  have e3 : mg l k 3 = d := by rw [hd]; rfl
  have e4 : mg l k 4 = a := (m0 0).trans e0
  have e5 : mg l k 5 = b := (m0 1).trans e1
  have e6 : mg l k 6 = c := (m0 2).trans e2
  rw [wo, show (mixL l).getD (4 * k) 0#8 = mg (mixL l) k 0 from q 0 (by omega), q 1 (by omega), q 2 (by omega), q 3 (by omega), mg_mix _ _ _ h, mg_mix _ _ _ h, mg_mix _ _ _ h, mg_mix _ _ _ h]
  simp only [Nat.zero_add, Nat.reduceAdd, e0, e1, e2, e3, e4, e5, e6, wd_xor, dbl_add _ _]

end Go.Proofs.Ytmldmlbmfbdjoaa


namespace Go.Proofs.Ytmldmlbmfbdjoaa
open Go Go.RowKit Go.Sort
attribute [local go_sem] setCell_drewN alloc_drewN


set_option maxRecDepth 100000 in
set_option maxHeartbeats 4000000 in
theorem a_subbed (l : List B) (K : List B) (g : Nat) (r : Int) (w : World) (hC : Cph w g K) : Calls Try.prog 37 #[.agg (srow (wos l 4) g r)] w fun e w' => e = .returned (.agg (srow (wos (subL l) 4) g r)) ∧ Below w.heap.size w w' := by
  have R0 := hp2_0 w (.cells (srow (wos l 4) g r) 73) (.cells zst 73)
  have R1 := hp2_1 w (.cells (srow (wos l 4) g r) 73) (.cells zst 73)
  have HW : Below w.heap.size w ((w.alloc (.cells (srow (wos l 4) g r) 73)).alloc (.cells zst 73)) := (((Below.refl _ _).alloc (Nat.le_refl _) _).alloc (by simp) _)

  have hgl : g < w.heap.size := lt_of_row hC
  replace hC := hC.keep HW
  have hi0 := info_wl infoC (wos l 4) (wos_len _ _)
  go_enter Try.func37, Try.ntmps37
  go_wp2_with (first | (refine wpList_box rfl 73 _ rfl _ rfl (bSt _) ?_) | (refine wpList_alloc rfl 73 rfl zst zSt ?_) | (refine wpList_load_part rfl 62 _ rfl (w.heap.size) 0 rfl 73 (srow (wos l 4) g r) (0, 0) (irow .u32 (wl (wos l 4))) _ R0 (srow_cols _ _ _) Try.underlying62 rfl hi0 ?_) | fail)
  try simp only [size_alloc1, Act.put, List.setIfInBounds_toArray, List.set_cons_succ, List.set_cons_zero]
  generalize ((w.alloc (.cells (srow (wos l 4) g r) 73)).alloc (.cells zst 73)) = w0 at *
  go_loopw [7] (fun i wr => ∃ k : Nat, k ≤ 4 ∧ i = .int .i64 k ∧ wr.heap[w.heap.size]? = some (.cells (srow (up (wo (subL l)) l k) g r) 73 (0, 0)) ∧ wr.heap[w.heap.size + 1]? = some (.cells zst 73 (0, 0)) ∧ Cph wr g K ∧ Below w.heap.size w wr) (fun i _ => 4 - (intOf i).toNat)
  case atStart => exact ⟨0, by omega, rfl, by rw [up_zero]; exact R0, R1, hC, HW⟩
  case round =>
    clear R0 R1 hC HW
    obtain ⟨k, hk, rfl, r0, r1, hC, hw⟩ := hrel
    by_cases hlt : k < 4
    · have hd : decide ((k : Int) < 4) = true := by simp; omega
      have hix := indexC (wos l 4) (wos_len _ _) k hlt wr
      rw [wos_get l 4 k hlt] at hix
      have cp := srow_ptr r0 (up_len _ _ _)
      have ct := a_through sb g 60 (l.getD (4 * k) 0#8) (l.getD (4 * k + 1) 0#8) (l.getD (4 * k + 2) 0#8) (l.getD (4 * k + 3) 0#8) wr hC.sub
      have hset := hide (up_set (wo (subL l)) l k hlt)
      rw [wo_sub l k hlt] at hset
      rw [wo] at hix
      generalize l.getD (4 * k) 0#8 = b0 at *
      generalize l.getD (4 * k + 1) 0#8 = b1 at *
      generalize l.getD (4 * k + 2) 0#8 = b2 at *
      generalize l.getD (4 * k + 3) 0#8 = b3 at *
      go_wp2_with (fail)
      refine (ct).mono ?_
      rintro e_ w1 ⟨rfl, hb⟩
      replace r0 := keep hb r0
      replace r1 := keep hb r1
      replace hC := hC.keep hb
      replace hw := Below.after hw hb
      clear hb hix cp
      have c0 := srow_cell r0 (j := k) (by rw [up_len]; exact hlt)
      have hf := row_frozen r0 k
      go_wp2
      refine ⟨⟨k + 1, by omega, by go_num, by rw [← hset.out]; exact srow_set r0 k _ (by rw [up_len]; exact hlt), heap_other r1 (by omega), heap_other hC (Nat.ne_of_lt hgl), hw.setCell (Nat.le_refl _) _⟩, by simp [intOf]; omega⟩
    · obtain rfl : k = 4 := by omega
      have hd : decide ((4 : Int) < 4) = false := by decide
      rw [up_full l (subL l)] at r0
      have hi9 := info_sr (wos (subL l) 4) g r (wos_len _ _)
      have hfi : zst.size = (srow (wos (subL l) 4) g r).size := by rw [srow_size, wos_len]; rfl
      clear hk hlt
      go_wp2_with (first | (refine wpList_load_want rfl 73 _ rfl (w.heap.size) rfl 73 (srow (wos (subL l) 4) g r) (0, 0) _ r0 Try.underlying73 rfl hi9 ?_) | (refine wpList_store_row rfl 73 _ _ rfl (w.heap.size + 1) (srow (wos (subL l) 4) g r) rfl rfl 73 _ r1 hi9 hfi (srow_one _ _ _) ?_) | fail)
      replace r1 := setRow_heap wr (w.heap.size + 1) _ (srow (wos (subL l) 4) g r) _ _ r1
      replace hw := below_setRow hw (show w.heap.size ≤ w.heap.size + 1 by omega) (srow (wos (subL l) 4) g r)
      generalize wr.setRow (w.heap.size + 1) (srow (wos (subL l) 4) g r) = w9 at *
      exact bodyPost_ret (v := .agg (srow (wos (subL l) 4) g r)) (results_cell_row Try.results37 _ _ (w.heap.size + 1) _ _ _ _ rfl r1 Try.underlying73 rfl hi9) rfl ⟨rfl, hw⟩


set_option maxRecDepth 100000 in
set_option maxHeartbeats 4000000 in
theorem a_unsubbed (l : List B) (K : List B) (g : Nat) (r : Int) (w : World) (hC : Cph w g K) : Calls Try.prog 45 #[.agg (srow (wos l 4) g r)] w fun e w' => e = .returned (.agg (srow (wos (unsubL l) 4) g r)) ∧ Below w.heap.size w w' := by
  have R0 := hp2_0 w (.cells (srow (wos l 4) g r) 73) (.cells zst 73)
  have R1 := hp2_1 w (.cells (srow (wos l 4) g r) 73) (.cells zst 73)
  have HW : Below w.heap.size w ((w.alloc (.cells (srow (wos l 4) g r) 73)).alloc (.cells zst 73)) := (((Below.refl _ _).alloc (Nat.le_refl _) _).alloc (by simp) _)

  have hgl : g < w.heap.size := lt_of_row hC
  replace hC := hC.keep HW
  have hi0 := info_wl infoC (wos l 4) (wos_len _ _)
  go_enter Try.func45, Try.ntmps45
  go_wp2_with (first | (refine wpList_box rfl 73 _ rfl _ rfl (bSt _) ?_) | (refine wpList_alloc rfl 73 rfl zst zSt ?_) | (refine wpList_load_part rfl 62 _ rfl (w.heap.size) 0 rfl 73 (srow (wos l 4) g r) (0, 0) (irow .u32 (wl (wos l 4))) _ R0 (srow_cols _ _ _) Try.underlying62 rfl hi0 ?_) | fail)
  try simp only [size_alloc1, Act.put, List.setIfInBounds_toArray, List.set_cons_succ, List.set_cons_zero]
  generalize ((w.alloc (.cells (srow (wos l 4) g r) 73)).alloc (.cells zst 73)) = w0 at *
  go_loopw [7] (fun i wr => ∃ k : Nat, k ≤ 4 ∧ i = .int .i64 k ∧ wr.heap[w.heap.size]? = some (.cells (srow (up (wo (unsubL l)) l k) g r) 73 (0, 0)) ∧ wr.heap[w.heap.size + 1]? = some (.cells zst 73 (0, 0)) ∧ Cph wr g K ∧ Below w.heap.size w wr) (fun i _ => 4 - (intOf i).toNat)
  case atStart => exact ⟨0, by omega, rfl, by rw [up_zero]; exact R0, R1, hC, HW⟩
  case round =>
    clear R0 R1 hC HW
    obtain ⟨k, hk, rfl, r0, r1, hC, hw⟩ := hrel
    by_cases hlt : k < 4
    · have hd : decide ((k : Int) < 4) = true := by simp; omega
      have hix := indexC (wos l 4) (wos_len _ _) k hlt wr
      rw [wos_get l 4 k hlt] at hix
      have cp := srow_ptr r0 (up_len _ _ _)
      have ct := a_through bk g 316 (l.getD (4 * k) 0#8) (l.getD (4 * k + 1) 0#8) (l.getD (4 * k + 2) 0#8) (l.getD (4 * k + 3) 0#8) wr hC.back
      have hset := hide (up_set (wo (unsubL l)) l k hlt)
      rw [wo_unsub l k hlt] at hset
      rw [wo] at hix
      generalize l.getD (4 * k) 0#8 = b0 at *
      generalize l.getD (4 * k + 1) 0#8 = b1 at *
      generalize l.getD (4 * k + 2) 0#8 = b2 at *
      generalize l.getD (4 * k + 3) 0#8 = b3 at *
      go_wp2_with (fail)
      refine (ct).mono ?_
      rintro e_ w1 ⟨rfl, hb⟩
      replace r0 := keep hb r0
      replace r1 := keep hb r1
      replace hC := hC.keep hb
      replace hw := Below.after hw hb
      clear hb hix cp
      have c0 := srow_cell r0 (j := k) (by rw [up_len]; exact hlt)
      have hf := row_frozen r0 k
      go_wp2
      refine ⟨⟨k + 1, by omega, by go_num, by rw [← hset.out]; exact srow_set r0 k _ (by rw [up_len]; exact hlt), heap_other r1 (by omega), heap_other hC (Nat.ne_of_lt hgl), hw.setCell (Nat.le_refl _) _⟩, by simp [intOf]; omega⟩
    · obtain rfl : k = 4 := by omega
      have hd : decide ((4 : Int) < 4) = false := by decide
      rw [up_full l (unsubL l)] at r0
      have hi9 := info_sr (wos (unsubL l) 4) g r (wos_len _ _)
      have hfi : zst.size = (srow (wos (unsubL l) 4) g r).size := by rw [srow_size, wos_len]; rfl
      clear hk hlt
      go_wp2_with (first | (refine wpList_load_want rfl 73 _ rfl (w.heap.size) rfl 73 (srow (wos (unsubL l) 4) g r) (0, 0) _ r0 Try.underlying73 rfl hi9 ?_) | (refine wpList_store_row rfl 73 _ _ rfl (w.heap.size + 1) (srow (wos (unsubL l) 4) g r) rfl rfl 73 _ r1 hi9 hfi (srow_one _ _ _) ?_) | fail)
      replace r1 := setRow_heap wr (w.heap.size + 1) _ (srow (wos (unsubL l) 4) g r) _ _ r1
      replace hw := below_setRow hw (show w.heap.size ≤ w.heap.size + 1 by omega) (srow (wos (unsubL l) 4) g r)
      generalize wr.setRow (w.heap.size + 1) (srow (wos (unsubL l) 4) g r) = w9 at *
      exact bodyPost_ret (v := .agg (srow (wos (unsubL l) 4) g r)) (results_cell_row Try.results45 _ _ (w.heap.size + 1) _ _ _ _ rfl r1 Try.underlying73 rfl hi9) rfl ⟨rfl, hw⟩


set_option maxRecDepth 100000 in
set_option maxHeartbeats 4000000 in
theorem a_keyed (l : List B) (K : List B) (g : Nat) (r : Nat) (hr : r < 15) (w : World) (hC : Cph w g K) : Calls Try.prog 40 #[.agg (srow (wos l 4) g (r : Int))] w fun e w' => e = .returned (.agg (srow (wos (xorL l (kr K r)) 4) g (r : Int))) ∧ Below w.heap.size w w' := by
  have R0 := hp2_0 w (.cells (srow (wos l 4) g (r : Int)) 73) (.cells zst 73)
  have R1 := hp2_1 w (.cells (srow (wos l 4) g (r : Int)) 73) (.cells zst 73)
  have HW : Below w.heap.size w ((w.alloc (.cells (srow (wos l 4) g (r : Int)) 73)).alloc (.cells zst 73)) := (((Below.refl _ _).alloc (Nat.le_refl _) _).alloc (by simp) _)

  have hgl : g < w.heap.size := lt_of_row hC
  replace hC := hC.keep HW
  have hi0 := info_wl infoC (kws K r) (kws_len _ _)
  go_enter Try.func40, Try.ntmps40
  go_wp2_with (first | (refine wpList_box rfl 73 _ rfl _ rfl (bSt _) ?_) | (refine wpList_alloc rfl 73 rfl zst zSt ?_) | fail)
  try simp only [size_alloc1, Act.put, List.setIfInBounds_toArray, List.set_cons_succ, List.set_cons_zero]
  generalize ((w.alloc (.cells (srow (wos l 4) g (r : Int)) 73)).alloc (.cells zst 73)) = w0 at *
  have c4 := srow_ptr R0 (wos_len _ _)
  have c5 := srow_rnd R0 (wos_len _ _)
  have k4 : ∀ p : Regrown, (grow (redrawn w0 p.d) p.os).cell? ⟨w.heap.size, 4, none⟩ = some (.pointer (some ⟨g, 0, none⟩)) := fun p => cell_regrown c4 p.d p.os
  have k5 : ∀ p : Regrown, (grow (redrawn w0 p.d) p.os).cell? ⟨w.heap.size, 5, none⟩ = some (.int .i64 (r : Int)) := fun p => cell_regrown c5 p.d p.os
  have HC := keepr hC
  have hcx := cph_key K r hr
  refine wp_region_quiet_below (by kernel_rfl) (by kernel_rfl) ?_
  go_big_quiet_step (fail)
  go_big_quiet_step (fail)
  go_big_quiet_step (fail)
  go_big_quiet_step (fail)
  go_big_quiet_step (fail)
  go_big_quiet_step (fail)
  go_big_quiet_step (fail)
  refine wpQuiet_load_part rfl 62 _ rfl g (r * 4) rfl 65 (cph K) (0, 0) (irow .u32 (wl (kws K r))) _ HC.out (by rw [Nat.mul_comm r 4]; exact hcx) Try.underlying62 rfl hi0 ?_
  simp only [Act.put, List.setIfInBounds_toArray, List.set_cons_succ, List.set_cons_zero]
  go_big_quiet_step (fail)
  refine wpQuiet_nil ?_
  rintro _ ⟨p, rfl⟩
  have hb := below_regrown w0 p.d p.os
  generalize grow (redrawn w0 p.d) p.os = w1 at *
  clear k4 k5 HC c4 c5 hcx
  replace R0 := keep hb R0
  replace R1 := keep hb R1
  replace hC := hC.keep hb
  replace HW := Below.after HW hb
  clear hb
  go_wp2_with (fail)
  go_loopw [13] (fun i wr => ∃ k : Nat, k ≤ 4 ∧ i = .int .i64 k ∧ wr.heap[w.heap.size]? = some (.cells (srow (up (wo (xorL l (kr K r))) l k) g (r : Int)) 73 (0, 0)) ∧ wr.heap[w.heap.size + 1]? = some (.cells zst 73 (0, 0)) ∧ Cph wr g K ∧ Below w.heap.size w wr) (fun i _ => 4 - (intOf i).toNat)
  case atStart => exact ⟨0, by omega, rfl, by rw [up_zero]; exact R0, R1, hC, HW⟩
  case round =>
    clear R0 R1 hC HW
    obtain ⟨k, hk, rfl, r0, r1, hC, hw⟩ := hrel
    by_cases hlt : k < 4
    · have hd : decide ((k : Int) < 4) = true := by simp; omega
      have hix := indexC (kws K r) (kws_len _ _) k hlt wr
      rw [kws_get K r k hlt] at hix
      have c0 := srow_cell r0 (j := k) (by rw [up_len]; exact hlt)
      rw [up_get _ _ _ hlt] at c0
      have hf := row_frozen r0 k
      have hx := xor32 (wo l k) (wo K (4 * r + k))
      have hset := hide (up_set (wo (xorL l (kr K r))) l k hlt)
      rw [wo_xor _ _ _ hlt, wo_kr _ _ _ hlt] at hset
      generalize wo l k = x0 at *
      generalize wo K (4 * r + k) = x1 at *
      go_wp2
      refine ⟨⟨k + 1, by omega, by go_num, by rw [← hset.out]; exact srow_set r0 k _ (by rw [up_len]; exact hlt), heap_other r1 (by omega), heap_other hC (Nat.ne_of_lt hgl), hw.setCell (Nat.le_refl _) _⟩, by simp [intOf]; omega⟩
    · obtain rfl : k = 4 := by omega
      have hd : decide ((4 : Int) < 4) = false := by decide
      rw [up_full l (xorL l (kr K r))] at r0
      have hi9 := info_sr (wos (xorL l (kr K r)) 4) g r (wos_len _ _)
      have hfi : zst.size = (srow (wos (xorL l (kr K r)) 4) g (r : Int)).size := by rw [srow_size, wos_len]; rfl
      clear hk hlt
      go_wp2_with (first | (refine wpList_load_want rfl 73 _ rfl (w.heap.size) rfl 73 (srow (wos (xorL l (kr K r)) 4) g (r : Int)) (0, 0) _ r0 Try.underlying73 rfl hi9 ?_) | (refine wpList_store_row rfl 73 _ _ rfl (w.heap.size + 1) (srow (wos (xorL l (kr K r)) 4) g (r : Int)) rfl rfl 73 _ r1 hi9 hfi (srow_one _ _ _) ?_) | fail)
      replace r1 := setRow_heap wr (w.heap.size + 1) _ (srow (wos (xorL l (kr K r)) 4) g (r : Int)) _ _ r1
      replace hw := below_setRow hw (show w.heap.size ≤ w.heap.size + 1 by omega) (srow (wos (xorL l (kr K r)) 4) g (r : Int))
      generalize wr.setRow (w.heap.size + 1) (srow (wos (xorL l (kr K r)) 4) g (r : Int)) = w9 at *
      exact bodyPost_ret (v := .agg (srow (wos (xorL l (kr K r)) 4) g (r : Int))) (results_cell_row Try.results40 _ _ (w.heap.size + 1) _ _ _ _ rfl r1 Try.underlying73 rfl hi9) rfl ⟨rfl, hw⟩


set_option maxRecDepth 100000 in
set_option maxHeartbeats 4000000 in
theorem a_mixed (l : List B) (g : Nat) (r : Int) (w : World) : Calls Try.prog 39 #[.agg (srow (wos l 4) g r)] w fun e w' => e = .returned (.agg (srow (wos (mixL l) 4) g r)) ∧ Below w.heap.size w w' := by
  have R0 := hp2_0 w (.cells (srow (wos l 4) g r) 73) (.cells zst 73)
  have R1 := hp2_1 w (.cells (srow (wos l 4) g r) 73) (.cells zst 73)
  have HW : Below w.heap.size w ((w.alloc (.cells (srow (wos l 4) g r) 73)).alloc (.cells zst 73)) := (((Below.refl _ _).alloc (Nat.le_refl _) _).alloc (by simp) _)

  have hi0 := info_wl infoC (wos l 4) (wos_len _ _)
  go_enter Try.func39, Try.ntmps39
  go_wp2_with (first | (refine wpList_box rfl 73 _ rfl _ rfl (bSt _) ?_) | (refine wpList_alloc rfl 73 rfl zst zSt ?_) | (refine wpList_load_part rfl 62 _ rfl (w.heap.size) 0 rfl 73 (srow (wos l 4) g r) (0, 0) (irow .u32 (wl (wos l 4))) _ R0 (srow_cols _ _ _) Try.underlying62 rfl hi0 ?_) | fail)
  try simp only [size_alloc1, Act.put, List.setIfInBounds_toArray, List.set_cons_succ, List.set_cons_zero]
  generalize ((w.alloc (.cells (srow (wos l 4) g r) 73)).alloc (.cells zst 73)) = w0 at *
  go_loopw [7] (fun i wr => ∃ k : Nat, k ≤ 4 ∧ i = .int .i64 k ∧ wr.heap[w.heap.size]? = some (.cells (srow (up (wo (mixL l)) l k) g r) 73 (0, 0)) ∧ wr.heap[w.heap.size + 1]? = some (.cells zst 73 (0, 0)) ∧ Below w.heap.size w wr) (fun i _ => 4 - (intOf i).toNat)
  case atStart => exact ⟨0, by omega, rfl, by rw [up_zero]; exact R0, R1, HW⟩
  case round =>
    clear R0 R1 HW
    obtain ⟨k, hk, rfl, r0, r1, hw⟩ := hrel
    by_cases hlt : k < 4
    · have hd : decide ((k : Int) < 4) = true := by simp; omega
      have hix := indexC (wos l 4) (wos_len _ _) k hlt wr
      rw [wos_get l 4 k hlt] at hix
      have hset := hide (up_set (wo (mixL l)) l k hlt)
      rw [wo_mix l k hlt _ _ _ _ rfl rfl rfl rfl] at hset
      rw [wo] at hix
      generalize l.getD (4 * k) 0#8 = b0 at *
      generalize l.getD (4 * k + 1) 0#8 = b1 at *
      generalize l.getD (4 * k + 2) 0#8 = b2 at *
      generalize l.getD (4 * k + 3) 0#8 = b3 at *
      have l1 := a_left1 b0 b1 b2 b3
      have l2 := a_left2 b0 b1 b2 b3
      have l3 := a_left3 b0 b1 b2 b3
      have tw := a_wtwice (b0 ^^^ b1) (b1 ^^^ b2) (b2 ^^^ b3) (b3 ^^^ b0)
      have x0 := xor32 (wd b0 b1 b2 b3) (wd b1 b2 b3 b0)
      rw [wd_xor] at x0
      have x1 := xor32 (wd (dbl (b0 ^^^ b1)) (dbl (b1 ^^^ b2)) (dbl (b2 ^^^ b3)) (dbl (b3 ^^^ b0))) (wd b1 b2 b3 b0)
      have x2 := xor32 (wd (dbl (b0 ^^^ b1)) (dbl (b1 ^^^ b2)) (dbl (b2 ^^^ b3)) (dbl (b3 ^^^ b0)) ^^^ wd b1 b2 b3 b0) (wd b2 b3 b0 b1)
      have x3 := xor32 (wd (dbl (b0 ^^^ b1)) (dbl (b1 ^^^ b2)) (dbl (b2 ^^^ b3)) (dbl (b3 ^^^ b0)) ^^^ wd b1 b2 b3 b0 ^^^ wd b2 b3 b0 b1) (wd b3 b0 b1 b2)
      generalize wd (dbl (b0 ^^^ b1)) (dbl (b1 ^^^ b2)) (dbl (b2 ^^^ b3)) (dbl (b3 ^^^ b0)) = v0 at *
      generalize wd (b0 ^^^ b1) (b1 ^^^ b2) (b2 ^^^ b3) (b3 ^^^ b0) = v9 at *
      generalize wd b1 b2 b3 b0 = v1 at *
      generalize wd b2 b3 b0 b1 = v2 at *
      generalize wd b3 b0 b1 b2 = v3 at *
      generalize v0 ^^^ v1 ^^^ v2 ^^^ v3 = u3 at *
      generalize v0 ^^^ v1 ^^^ v2 = u2 at *
      generalize v0 ^^^ v1 = u1 at *
      go_wp2_with (fail)
      refine (l1.at _).mono ?_
      rintro e_ w1 ⟨rfl, hb⟩
      replace r0 := keep hb r0
      replace r1 := keep hb r1
      replace hw := Below.after hw hb
      clear hb
      go_wp2_with (fail)
      refine (tw.at _).mono ?_
      rintro e_ w2 ⟨rfl, hb⟩
      replace r0 := keep hb r0
      replace r1 := keep hb r1
      replace hw := Below.after hw hb
      clear hb
      go_wp2_with (fail)
      refine (l1.at _).mono ?_
      rintro e_ w3 ⟨rfl, hb⟩
      replace r0 := keep hb r0
      replace r1 := keep hb r1
      replace hw := Below.after hw hb
      clear hb
      go_wp2_with (fail)
      refine (l2.at _).mono ?_
      rintro e_ w4 ⟨rfl, hb⟩
      replace r0 := keep hb r0
      replace r1 := keep hb r1
      replace hw := Below.after hw hb
      clear hb
      go_wp2_with (fail)
      refine (l3.at _).mono ?_
      rintro e_ w5 ⟨rfl, hb⟩
      replace r0 := keep hb r0
      replace r1 := keep hb r1
      replace hw := Below.after hw hb
      clear hb

      have c0 := srow_cell r0 (j := k) (by rw [up_len]; exact hlt)
      have hf := row_frozen r0 k
      go_wp2
      refine ⟨⟨k + 1, by omega, by go_num, by rw [← hset.out]; exact srow_set r0 k _ (by rw [up_len]; exact hlt), heap_other r1 (by omega), hw.setCell (Nat.le_refl _) _⟩, by simp [intOf]; omega⟩
    · obtain rfl : k = 4 := by omega
      have hd : decide ((4 : Int) < 4) = false := by decide
      rw [up_full l (mixL l)] at r0
      have hi9 := info_sr (wos (mixL l) 4) g r (wos_len _ _)
      have hfi : zst.size = (srow (wos (mixL l) 4) g r).size := by rw [srow_size, wos_len]; rfl
      clear hk hlt
      go_wp2_with (first | (refine wpList_load_want rfl 73 _ rfl (w.heap.size) rfl 73 (srow (wos (mixL l) 4) g r) (0, 0) _ r0 Try.underlying73 rfl hi9 ?_) | (refine wpList_store_row rfl 73 _ _ rfl (w.heap.size + 1) (srow (wos (mixL l) 4) g r) rfl rfl 73 _ r1 hi9 hfi (srow_one _ _ _) ?_) | fail)
      replace r1 := setRow_heap wr (w.heap.size + 1) _ (srow (wos (mixL l) 4) g r) _ _ r1
      replace hw := below_setRow hw (show w.heap.size ≤ w.heap.size + 1 by omega) (srow (wos (mixL l) 4) g r)
      generalize wr.setRow (w.heap.size + 1) (srow (wos (mixL l) 4) g r) = w9 at *
      exact bodyPost_ret (v := .agg (srow (wos (mixL l) 4) g r)) (results_cell_row Try.results39 _ _ (w.heap.size + 1) _ _ _ _ rfl r1 Try.underlying73 rfl hi9) rfl ⟨rfl, hw⟩


end Go.Proofs.Ytmldmlbmfbdjoaa

