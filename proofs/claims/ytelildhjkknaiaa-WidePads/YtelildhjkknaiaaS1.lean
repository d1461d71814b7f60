import Derived.Test.YtelildhjkknaiaaProg
import Derived.WalkKit
import Derived.WalkSpells
import Derived.WalkLawsBesides
import Derived.Lib.QuietBelow
import Derived.BigQuiet
import Derived.Test.YtelildhjkknaiaaS0
namespace Go.Proofs.Ytelildhjkknaiaa.Wi
open Go Go.RowKit Go.Sort
attribute [local go_sem] setCell_drewN alloc_drewN

/-- How long a slice is. -/
def slen : Value → Nat
  | .slice _ l _ => l
  | _ => 0
theorem slen_own {W : World} {b : Nat} {T : TypeId} {sz : Nat} {v : Value} {n : Nat} {xs : List Value} (h : W.ownsRow b T sz v n xs) : ∃ ao cap, v = .slice ao n cap := by
  obtain ⟨_, ⟨rfl, rfl⟩ | ⟨g, cap, cur, rfl, _⟩⟩ := h
  · exact ⟨_, _, rfl⟩
  · exact ⟨_, _, rfl⟩
set_option maxRecDepth 100000 in
theorem info8 : ∃ i, Try.prog.info? 5 = some i ∧ i.zero = some (.int .u8 0) ∧ i.size = 1 ∧ i.bytes = 1 := ⟨_, rfl, rfl, rfl, rfl⟩
/-- The beginning of the padding, by its length. -/
theorem pad_first (n : Nat) : (padL n).take 1 = [128] := by
  have hb := plen_bd n
  obtain ⟨m, hm⟩ : ∃ m, plen n = m + 1 := ⟨plen n - 1, by omega⟩
  simp [padL, padP, hm, List.range_succ_eq_map]
theorem pad_get (n j : Nat) (hj : j < plen n) : (padL n)[j]? = some (if j = 0 then 128 else if plen n - 16 ≤ j then pbit n (plen n - 1 - j) else 0) := by
  have hb := plen_bd n
  simp only [padL, padP, List.getElem?_map, List.getElem?_range hj, Option.map_some]
  congr 1
  split
  · rfl
  · by_cases h : plen n - 16 ≤ j
    · rw [if_pos h, if_pos (by omega)]
    · rw [if_neg h, if_neg (by omega)]
theorem pad_hi (n : Nat) (hn : n < 18446744073709551616) (i : Nat) (h : 9 ≤ i) : pbit n i = 0 := by
  unfold pbit
  have e : 2 ^ (8 * i) = 2 ^ (8 * 9) * 2 ^ (8 * (i - 9)) := by rw [← Nat.pow_add]; congr 1; omega
  have h1 : 8 * n / 2 ^ (8 * i) = 0 := by
    rw [e, ← Nat.div_div_eq_div_mul, show 8 * n / 2 ^ (8 * 9) = 0 by omega, Nat.zero_div]
  rw [h1]
  rfl
theorem take_next {α : Type} (l : List α) (k : Nat) (x : α) (h : l[k]? = some x) : l.take k ++ [x] = l.take (k + 1) := by
  rw [List.take_add_one, h]; rfl
theorem new_cell (wr : World) (x : Int) : ∀ j u, [Value.int .u8 x][j]? = some u → (wr.alloc (.cells #[.int .u8 x] 5)).cell? ((⟨wr.heap.size, 0, none⟩ : Addr).add j) = some u := by
  intro j u hu
  have hj : j = 0 := by
    have := (List.getElem?_eq_some_iff.1 hu).1
    simp at this
    exact this
  subst hj
  simp at hu
  subst hu
  rw [addr_add]
  have hg : (wr.alloc (.cells #[.int .u8 x] 5)).heap[wr.heap.size]? = some (.cells #[.int .u8 x] 5 (0, 0)) := hp1_0 wr _
  simp only [World.cell?, hg]
  rfl
set_option maxHeartbeats 2000000 in
theorem r_pad (n : Nat) (hn : n < 18446744073709551616) (w : World) : Calls Try.prog 18 #[.int .u64 (n : Int)] w fun e w' => ∃ v, e = .returned v ∧ w'.ownsRow w.heap.size 5 1 v (plen n) ((padL n).map (Value.int .u8)) ∧ Below w.heap.size w w' := by
  have hpb := plen_bd n
  obtain ⟨i0, hi, hz0, hz1, hz2⟩ := info8
  have hown0 : (w.alloc (.cells #[.int .u8 128] 5)).ownsRow w.heap.size 5 1 (.slice (some ⟨w.heap.size, 0, none⟩) 1 1) 1 (((padL n).take 1).map (Value.int .u8)) := by
    rw [pad_first]
    refine ⟨rfl, .inr ⟨w.heap.size, 1, #[.int .u8 128], rfl, Nat.le_refl _, hp1_0 w _, Nat.le_refl _, by decide, rfl, rfl⟩⟩
  have HW : Below w.heap.size w (w.alloc (.cells #[.int .u8 128] 5)) := (Below.refl _ _).alloc (Nat.le_refl _) _
  go_enter Try.func18, Try.ntmps18
  go_wp2
  generalize w.alloc (.cells #[.int .u8 128] 5) = w0 at *
  go_loopw [3] (fun v wr => ∃ k : Nat, 1 ≤ k ∧ k ≤ plen n - 16 ∧ wr.ownsRow w.heap.size 5 1 v k (((padL n).take k).map (Value.int .u8)) ∧ Below w.heap.size w wr) (fun v _ => 144 - slen v)
  case atStart => exact ⟨1, by omega, by omega, hown0, HW⟩
  case round =>
    clear hown0 HW
    obtain ⟨k, hk0, hk, hown, hw⟩ := hrel
    obtain ⟨ao, cap, rfl⟩ := slen_own hown
    by_cases hlt : k < plen n - 16
    · have hd : ((n : Int) % 128 + (k : Int) + 16) % 128 ≠ 0 := by unfold plen at hlt; omega
      have hown_ := hown.alloc (.cells #[.int .u8 0] 5)
      go_wp2_with (at_builtin; refine wpList_append_own _ rfl (.tmp 16) (.tmp 17) 22 rfl w.heap.size 5 i0 (.int .u8 0) 1 1 Try.underlying22 hi hz0 hz1 hz2 rfl (by decide) (.slice ao k cap) k _ rfl hown_ ⟨wr.heap.size, 0, none⟩ 1 1 [.int .u8 0] rfl rfl (new_cell wr 0) (by simp [Value.oneCell']) (by unfold maxLen; omega) (by omega) (by rw [size_alloc1]; exact Nat.le_succ_of_le hw.size) ?_)
      intro v' w2 hown2 hgrow _
      replace hw := (hw.alloc hw.size _).grown hgrow (by rw [size_alloc1]; exact Nat.le_succ_of_le hw.size) (fun k h => (hown_.lt k h).1)
      clear hown hown_ hgrow
      obtain ⟨ao', cap', rfl⟩ := slen_own hown2

      replace hown2 : w2.ownsRow w.heap.size 5 1 (.slice ao' (k + 1) cap') (k + 1) (((padL n).take (k + 1)).map (Value.int .u8)) := by
        rw [← take_next _ _ (0 : Int) (by rw [pad_get n k (by omega), if_neg (by omega), if_neg (by omega)]), List.map_append, List.map_take]; exact hown2
      go_wp2
      refine ⟨⟨k + 1, by omega, by omega, hown2, hw⟩, ?_⟩
      simp [slen]; omega
    · obtain rfl : k = plen n - 16 := by omega
      have hd : ((n : Int) % 128 + ((plen n - 16 : Nat) : Int) + 16) % 128 = 0 := by unfold plen; omega
      have hlo : ∀ k : Nat, k < 8 → IntKind.u64.wrap ((n : Int) * 8) / 2 ^ (8 * k) % 256 = pbit n k := fun k hk => by
        rw [IntKind.wrap_u64, Int.mul_comm]
        exact lo_bit n k hk
      have hhi : (n : Int) / 2305843009213693952 = pbit n 8 := by
        have := hi_bit n 0
        simp at this
        omega
      have hzr := pad_hi n hn
      have hget := pad_get n
      have hpl : (padL n).length = plen n := padP_len n 8
      generalize hm : plen n - 16 = m at *
      go_wp2
      go_loopw [3, 4] (fun v i wr => ∃ k : Nat, k ≤ 7 ∧ i = .int .i64 (k : Int) ∧ wr.ownsRow w.heap.size 5 1 v (m + k) (((padL n).take (m + k)).map (Value.int .u8)) ∧ Below w.heap.size w wr) (fun _ i _ => 7 - (intOf i).toNat)
      case atStart => exact ⟨0, by omega, rfl, hown, hw⟩
      case round =>
        clear hown hw hd
        obtain ⟨k, hk, rfl, hown, hw⟩ := hrel
        obtain ⟨ao2, cap2, rfl⟩ := slen_own hown
        by_cases hlt : k < 7
        · have hd : decide ((k : Int) < 7) = true := by simp; omega
          have hg := hget (m + k) (by omega)
          rw [if_neg (by omega), if_pos (by omega), hzr _ (by omega)] at hg
          clear hlo hhi hget hzr
          have hown_ := hown.alloc (.cells #[.int .u8 0] 5)
          go_wp2_with (at_builtin; refine wpList_append_own _ rfl (.tmp 23) (.tmp 24) 22 rfl w.heap.size 5 i0 (.int .u8 0) 1 1 Try.underlying22 hi hz0 hz1 hz2 rfl (by decide) (.slice ao2 (m + k) cap2) (m + k) _ rfl hown_ ⟨wr.heap.size, 0, none⟩ 1 1 [.int .u8 0] rfl rfl (new_cell wr 0) (by simp [Value.oneCell']) (by unfold maxLen; omega) (by omega) (by rw [size_alloc1]; exact Nat.le_succ_of_le hw.size) ?_)
          intro v' w2 hown2 hgrow _
          replace hw := (hw.alloc hw.size _).grown hgrow (by rw [size_alloc1]; exact Nat.le_succ_of_le hw.size) (fun k h => (hown_.lt k h).1)
          clear hown hown_ hgrow
          obtain ⟨ao', cap', rfl⟩ := slen_own hown2

          replace hown2 : w2.ownsRow w.heap.size 5 1 (.slice ao' (m + k + 1) cap') (m + k + 1) (((padL n).take (m + k + 1)).map (Value.int .u8)) := by
            rw [← take_next _ _ _ hg, List.map_append, List.map_take]; exact hown2
          clear hg
          go_wp2
          refine ⟨⟨k + 1, by omega, by go_num, hown2, hw⟩, ?_⟩
          simp [intOf]; omega
        · obtain rfl : k = 7 := by omega
          have hd : decide ((7 : Int) < 7) = false := by decide
          have hg := hget (m + 7) (by omega)
          rw [if_neg (by omega), if_pos (by omega), show plen n - 1 - (m + 7) = 8 by omega] at hg
          have hb8 := pbit_bd n 8
          have hown_ := hown.alloc (.cells #[.int .u8 (pbit n 8)] 5)
          go_wp2_with (at_builtin; refine wpList_append_own _ rfl (.tmp 26) (.tmp 30) 22 rfl w.heap.size 5 i0 (.int .u8 0) 1 1 Try.underlying22 hi hz0 hz1 hz2 rfl (by decide) (.slice ao2 (m + 7) cap2) (m + 7) _ rfl hown_ ⟨wr.heap.size, 0, none⟩ 1 1 [.int .u8 (pbit n 8)] rfl rfl (new_cell wr (pbit n 8)) (by simp [Value.oneCell']) (by unfold maxLen; omega) (by omega) (by rw [size_alloc1]; exact Nat.le_succ_of_le hw.size) ?_)
          intro v' w2 hown2 hgrow _
          replace hw := (hw.alloc hw.size _).grown hgrow (by rw [size_alloc1]; exact Nat.le_succ_of_le hw.size) (fun k h => (hown_.lt k h).1)
          clear hown hown_ hgrow
          obtain ⟨ao', cap', rfl⟩ := slen_own hown2

          replace hown2 : w2.ownsRow w.heap.size 5 1 (.slice ao' (m + 7 + 1) cap') (m + 7 + 1) (((padL n).take (m + 7 + 1)).map (Value.int .u8)) := by
            rw [← take_next _ _ _ hg, List.map_append, List.map_take]; exact hown2
          obtain ⟨q, hq⟩ : ∃ q, q = m + 7 + 1 := ⟨_, rfl⟩
          rw [← hq] at hown2 ⊢
          have hq2 : plen n = q + 8 := by omega
          have hq3 : 0 < q := by omega
          rw [hm.symm] at hget
          clear hg hhi hq hzr hd hm
          go_wp2
          go_loopw [3, 5] (fun v i wr => ∃ k : Nat, k ≤ 8 ∧ i = .int .i64 (k : Int) ∧ wr.ownsRow w.heap.size 5 1 v (q + k) (((padL n).take (q + k)).map (Value.int .u8)) ∧ Below w.heap.size w wr) (fun _ i _ => 8 - (intOf i).toNat)
          case atStart => exact ⟨0, by omega, rfl, hown2, hw⟩
          case round =>
            clear hown2 hw
            obtain ⟨k, hk, rfl, hown, hw⟩ := hrel
            obtain ⟨ao3, cap3, rfl⟩ := slen_own hown
            by_cases hlt : k < 8
            · have hd : decide ((k : Int) < 8) = true := by simp; omega
              have hb := hlo (7 - k) (by omega)
              rw [show 8 * (7 - k) = 56 - 8 * k by omega] at hb
              have hg := hget (q + k) (by omega)
              rw [if_neg (by omega), if_pos (by omega), show plen n - 1 - (q + k) = 7 - k by omega] at hg
              have hbb := pbit_bd n (7 - k)
              generalize pbit n (7 - k) = z at *
              clear hlo hget
              have hown_ := hown.alloc (.cells #[.int .u8 z] 5)
              go_wp2_with (at_builtin; refine wpList_append_own _ rfl (.tmp 36) (.tmp 44) 22 rfl w.heap.size 5 i0 (.int .u8 0) 1 1 Try.underlying22 hi hz0 hz1 hz2 rfl (by decide) (.slice ao3 (q + k) cap3) (q + k) _ rfl hown_ ⟨wr.heap.size, 0, none⟩ 1 1 [.int .u8 z] rfl rfl (new_cell wr z) (by simp [Value.oneCell']) (by unfold maxLen; omega) (by omega) (by rw [size_alloc1]; exact Nat.le_succ_of_le hw.size) ?_)
              intro v' w2 hown2 hgrow _
              replace hw := (hw.alloc hw.size _).grown hgrow (by rw [size_alloc1]; exact Nat.le_succ_of_le hw.size) (fun k h => (hown_.lt k h).1)
              clear hown hown_ hgrow
              obtain ⟨ao', cap', rfl⟩ := slen_own hown2

              replace hown2 : w2.ownsRow w.heap.size 5 1 (.slice ao' (q + k + 1) cap') (q + k + 1) (((padL n).take (q + k + 1)).map (Value.int .u8)) := by
                rw [← take_next _ _ _ hg, List.map_append, List.map_take]; exact hown2
              clear hg hb
              go_wp2
              refine ⟨⟨k + 1, by omega, by go_num, hown2, hw⟩, ?_⟩
              simp [intOf]; omega
            · obtain rfl : k = 8 := by omega
              have hd : decide ((8 : Int) < 8) = false := by decide
              have e8 : q + 8 = plen n := by omega
              have et : (padL n).take (q + 8) = padL n := List.take_of_length_le (by omega)
              rw [et] at hown
              clear hlo hget
              go_wp2
              go_ret
              exact ⟨_, rfl, by rw [← e8]; exact hown, hw⟩

end Go.Proofs.Ytelildhjkknaiaa.Wi


namespace Go.Proofs.Ytelildhjkknaiaa.Wi
open Go Go.RowKit Go.Sort
attribute [local go_sem] setCell_drewN alloc_drewN

/-- An append whose row is either the old one or a new block. -/
theorem wpList_append_two {P : Program} (w : World) {ops : Array Oper} {rest : List Oper} {o : Oper} {a : Act} {Q : Exit → Act → World → Prop} (hgd : o.guard = none) (s x : Operand) (t : TypeId)
    (ho : o.op = .call { callee := .builtin .append, args := #[s, x], argTypes := #[t, t] })
    (base : Nat) (e : TypeId) (i : TypeInfo) (z : Value) (ht : P.underlying t = some (.slice e)) (hi : P.info? e = some i) (hz : i.zero = some z)
    (hsize : i.size = 1) (hby : i.bytes = 1) (hzs : z.cells.size = 1)
    (g n cap : Nat) (xs : List Value) (hs : a.eval s = .slice (some ⟨g, 0, none⟩) n cap) (hown : w.ownsRow base e 1 (.slice (some ⟨g, 0, none⟩) n cap) n xs)
    (ad : Addr) (m c : Nat) (news : List Value) (hx : a.eval x = .slice (some ad) m c) (hl : news.length = m * 1) (hnews : ∀ j u, news[j]? = some u → w.cell? (ad.add j) = some u) (h1 : ∀ u ∈ news, u.oneCell' = true)
    (h63 : n + m ≤ maxLen) (hbytes : (n + m) * 1 ≤ 140737488355328) (hbase : base ≤ w.heap.size)
    (h : ∀ g' cap' w', w'.ownsRow base e 1 (.slice (some ⟨g', 0, none⟩) (n + m) cap') (n + m) (xs ++ news) → w.grownBy w' (some g) → (g' = g ∨ g' = w.heap.size) → wpList P ops Q rest (a.put o.dst (.slice (some ⟨g', 0, none⟩) (n + m) cap')) w') : wpList P ops Q (o :: rest) a w := by
  refine wpList_plain hgd fun K hK => ?_
  obtain ⟨v', w', hr, h2, h3, _⟩ := run_append_own (P := P) w base t o.type e i z 1 1 ht hi hz hsize hby hzs (by decide) _ n xs hown ad m c news hl hnews h1 h63 hbytes hbase
  have key : ∃ g' cap', v' = .slice (some ⟨g', 0, none⟩) (n + m) cap' ∧ (g' = g ∨ g' = w.heap.size) := by
    rcases hown.2 with ⟨hv, _⟩ | ⟨g1, cap1, cur, hv, hbg, hg, hnc, hcm, hcs, htake⟩
    · cases hv
    · cases hv
      by_cases hroom : n + m ≤ cap
      · have hr2 := run_append_room (P := P) w t o.type e i ht hi g n cap cur hg ad m c news (by rw [hsize]; exact hl) hnews h1 hroom (by rw [hsize, hl, hcs]; omega)
        have := hr.symm.trans hr2
        injection this with e1 e2
        exact ⟨g, cap, e1, .inl rfl⟩
      · have holds : ∀ j u, xs[j]? = some u → w.cell? ((⟨g, 0, none⟩ : Addr).add j) = some u := hown.cells (g := g) rfl
        have hr2 := run_append_grow (P := P) w t o.type e i z ht hi hz ⟨g, 0, none⟩ n cap xs (by rw [hsize]; exact hown.1) holds ad m c news (by rw [hsize]; exact hl) hnews (by omega) (by simp only [maxLen] at h63; omega) (growslice_fits (by omega) (by rw [hby]; exact hbytes))
        have := hr.symm.trans hr2
        injection this with e1 e2
        exact ⟨_, _, e1, .inr rfl⟩
  obtain ⟨g', cap', rfl, hgg⟩ := key
  unfold Oper.wp execOp
  simp only [ho, resolve, invoke, builtin, Sem.run_bind, Sem.run_pure, Result.andThen_ok, List.map_toArray, List.map_cons, List.map_nil, hs, hx, hr]
  exact hK _ _ (h g' cap' w' h2 h3 hgg)
set_option maxHeartbeats 2000000 in
/-- Two slices that say the same. -/
theorem same_any (bs : List Int) (w : World) (u v : Value) (hu : Bys w u bs) (hv : Bys w v bs) : Calls Try.prog 19 #[u, v] w fun e w' => e = .returned (.bool true) ∧ Below w.heap.size w w' := by
  obtain ⟨ao, cap, rfl, hl, hc, hz⟩ := hu
  obtain ⟨ao', cap', rfl, _, hc', _⟩ := hv
  generalize hlen : bs.length = len at *
  go_enter Try.func19, Try.ntmps19
  go_wp2
  go_loopw [5] (fun i wr => ∃ k : Nat, k ≤ len ∧ i = .int .i64 k ∧ Below w.heap.size w wr) (fun i _ => len - (intOf i).toNat)
  case atStart => exact ⟨0, by omega, rfl, Below.refl _ _⟩
  case round =>
    obtain ⟨k, hk, rfl, hw⟩ := hrel
    by_cases hlt : k < len
    · have hd : decide ((k : Int) < (len : Int)) = true := by simp; omega
      obtain ⟨b, off, rfl, hb1, hb2⟩ := hc k hlt
      obtain ⟨b', off', rfl, hb1', hb2'⟩ := hc' k hlt
      replace hb2 := (hw.cell (p := ⟨b, off + k, none⟩) hb1).trans hb2
      replace hb2' := (hw.cell (p := ⟨b', off' + k, none⟩) hb1').trans hb2'
      generalize bs.getD k 0 = z at *
      clear hc hc'
      go_wp2
      have k1 : ∀ p : Regrown, (grow (redrawn wr p.d) p.os).cell? ⟨b, off + k, none⟩ = some (.int .u8 z) := fun p => cell_regrown (hb2) p.d p.os
      have k2 : ∀ p : Regrown, (grow (redrawn wr p.d) p.os).cell? ⟨b', off' + k, none⟩ = some (.int .u8 z) := fun p => cell_regrown (hb2') p.d p.os
      refine wp_region_quiet_below (by kernel_rfl) (by kernel_rfl) ?_
      go_big_quiet_step (fail)
      go_big_quiet_step (fail)
      go_big_quiet_step (fail)
      go_big_quiet_step (fail)
      go_big_quiet_step (fail)
      go_big_quiet_step (fail)
      go_big_quiet_step (fail)
      go_big_quiet_step (fail)
      go_big_quiet_step (fail)
      refine wpQuiet_nil ?_
      rintro _ ⟨p, rfl⟩
      have hb := below_regrown wr p.d p.os
      generalize grow (redrawn wr p.d) p.os = w1 at *
      clear k1 k2
      replace hw := Below.after hw hb
      clear hb

      go_wp2
      refine ⟨⟨k + 1, by omega, by go_num, hw⟩, ?_⟩
      simp [intOf]; omega
    · obtain rfl : k = len := by omega
      have hd : decide ((k : Int) < (k : Int)) = false := by simp
      go_wp2
      go_ret
      exact ⟨rfl, hw⟩
theorem grown_trans {a b c : World} {row : Option Nat} {g : Nat} (h : a.grownBy b (some g)) (h2 : b.grownBy c row) (hr : row = none ∨ row = some g ∨ ∃ k, row = some k ∧ a.heap.size ≤ k) : a.grownBy c (some g) := by
  refine ⟨h2.os.trans h.os, h2.tape.trans h.tape, h2.output.trans h.output, Nat.le_trans h.size h2.size, fun k hk hn => ?_⟩
  have h3 := h.size
  refine (h2.block k (by omega) ?_).trans (h.block k hk hn)
  rcases hr with rfl | rfl | ⟨q, rfl, hq⟩
  · simp
  · exact hn
  · intro e; injection e with e; omega
theorem grown_setCell {a b : World} {g j : Nat} {v : Value} (h : a.grownBy b (some g)) : a.grownBy (b.setCell ⟨g, j, none⟩ v) (some g) := by
  refine ⟨h.os, h.tape, h.output, ?_, fun k hk hn => ?_⟩
  · have e : (b.setCell ⟨g, j, none⟩ v).heap.size = b.heap.size := by simp [World.setCell]
    rw [e]; exact h.size
  · rw [heap_setCell_other b ⟨g, j, none⟩ k v (fun e => hn (by rw [e]))]
    exact h.block k hk hn
set_option maxHeartbeats 2000000 in
/-- All of a list and what lies behind it written over: no other block turns. -/
theorem full_any (g n cap : Nat) (x : Int) (cur : Array Value) (w : World) (hg : w.heap[g]? = some (.cells cur 5 (0, 0))) (hcs : cur.size = cap) (hn : n ≤ cap) (hm : cap ≤ maxLen) (hb : n + 90 ≤ 140737488355328) :
    Calls Try.prog 20 #[.slice (some ⟨g, 0, none⟩) n cap, .int .u8 x] w fun e w' => e = .returned (.tuple #[]) ∧ w.grownBy w' (some g) := by
  obtain ⟨i0, hi, hz0, hz1, hz2⟩ := info8
  have hgl := lt_of_row hg
  go_enter Try.func20, Try.ntmps20
  go_wp2
  go_loopw [4] (fun i wr => ∃ k : Nat, k ≤ n ∧ i = .int .i64 k ∧ (∃ cur' : Array Value, cur'.size = cap ∧ wr.heap[g]? = some (.cells cur' 5 (0, 0))) ∧ w.grownBy wr (some g)) (fun i _ => n - (intOf i).toNat)
  case atStart => exact ⟨0, by omega, rfl, ⟨cur, hcs, hg⟩, World.grownBy.refl _ _⟩
  case round =>
    obtain ⟨k, hk, rfl, ⟨cur', hcs', hg'⟩, hw⟩ := hrel
    by_cases hlt : k < n
    · have hd : decide ((k : Int) < (n : Int)) = true := by simp; omega
      have hc : wr.cell? ⟨g, k, none⟩ = some (cur'[k]'(by omega)) := by rw [cell_of_row _ _ _ _ _ _ hg', Array.getElem?_eq_getElem (by omega)]
      have hf := row_frozen hg' k
      have hq := heap_setCell_same wr g k cur' _ (.int .u8 x) hg'
      go_wp2
      refine ⟨⟨k + 1, by omega, by go_num, ⟨_, by rw [Array.size_setIfInBounds]; exact hcs', hq⟩, grown_setCell hw⟩, ?_⟩
      simp [intOf]; omega
    · obtain rfl : k = n := by omega
      have hd : decide ((k : Int) < (k : Int)) = false := by simp
      go_wp2
      go_loopw [0, 5] (fun v i wr => ∃ (j g' c' : Nat) (xs : List Value), j ≤ 90 ∧ i = .int .i64 j ∧ v = .slice (some ⟨g', 0, none⟩) (k + j) c' ∧ wr.ownsRow 0 5 1 (.slice (some ⟨g', 0, none⟩) (k + j) c') (k + j) xs ∧ (g' = g ∨ w.heap.size ≤ g') ∧ w.grownBy wr (some g)) (fun _ i _ => 90 - (intOf i).toNat)
      case atStart =>
        refine ⟨0, g, cap, cur'.toList.take k, by omega, rfl, rfl, ⟨by simp; omega, .inr ⟨g, cap, cur', rfl, Nat.zero_le _, hg', hn, hm, by omega, by simp⟩⟩, .inl rfl, hw⟩
      case round =>
        clear hg' hw hd
        obtain ⟨j, g', c', xs, hj, rfl, rfl, hown, hgg, hw⟩ := hrel
        by_cases hlt2 : j < 90
        · have hd : decide ((j : Int) < 90) = true := by simp; omega
          have hown_ := hown.alloc (.cells #[.int .u8 x] 5)
          go_wp2_with (at_builtin; refine wpList_append_two _ rfl (.tmp 20) (.tmp 22) 22 rfl 0 5 i0 (.int .u8 0) Try.underlying22 hi hz0 hz1 hz2 rfl g' (k + j) c' xs rfl hown_ ⟨wr.heap.size, 0, none⟩ 1 1 [.int .u8 x] rfl rfl (new_cell wr x) (by simp [Value.oneCell']) (by unfold maxLen; omega) (by omega) (Nat.zero_le _) ?_)
          intro g2 c2 w2 hown2 hgrow hg2
          have hws := hw.size
          have hga : w.grownBy (wr.alloc (.cells #[.int .u8 x] 5)) (some g) := grown_trans hw (World.grownBy_alloc wr _ none) (.inl rfl)
          have hgb : w.grownBy w2 (some g) := grown_trans hga hgrow (by rcases hgg with rfl | h; exact .inr (.inl rfl); exact .inr (.inr ⟨_, rfl, h⟩))
          have hg3 : g2 = g ∨ w.heap.size ≤ g2 := by
            rcases hg2 with rfl | rfl
            · exact hgg
            · exact .inr (by omega)
          clear hown hown_ hgrow hga hw hg2
          go_wp2
          refine ⟨⟨j + 1, g2, c2, _, by omega, by go_num, rfl, hown2, hg3, hgb⟩, ?_⟩
          simp [intOf]; omega
        · obtain rfl : j = 90 := by omega
          have hd : decide ((90 : Int) < 90) = false := by decide
          go_wp2
          go_end0
          exact ⟨rfl, hw⟩

end Go.Proofs.Ytelildhjkknaiaa.Wi


namespace Go.Proofs.Ytelildhjkknaiaa.Wi
open Go Go.RowKit Go.Sort
attribute [local go_sem] setCell_drewN alloc_drewN

theorem Bys.of_own {W : World} {b n : Nat} {v : Value} {l : List Int} (h : W.ownsRow b 5 1 v n (l.map (Value.int .u8))) (hl : l.length ≤ 9223372036854775807) (hz : ∀ z ∈ l, 0 ≤ z ∧ z < 256) : Bys W v l := by
  obtain ⟨h1, ⟨rfl, rfl⟩ | ⟨g, cap, cur, rfl, hb, hg, hn, hm, hs, ht⟩⟩ := h
  · have : l = [] := List.eq_nil_of_length_eq_zero (by simpa using h1)
    subst this
    exact ⟨none, 0, rfl, by decide, fun j hj => by simp at hj, by simp⟩
  · have hln : l.length = n := by simpa using h1
    refine ⟨_, cap, by rw [hln], hl, fun j hj => ⟨g, 0, rfl, lt_of_row hg, ?_⟩, hz⟩
    rw [Nat.zero_add, cell_of_row _ _ _ _ _ _ hg]
    have h2 := congrArg (fun q => q[j]?) ht
    simp only [Nat.mul_one] at h2
    rw [List.getElem?_take_of_lt (by omega), List.getElem?_map, List.getElem?_eq_getElem hj] at h2
    rw [← Array.getElem?_toList, h2, List.getD_eq_getElem?_getD, List.getElem?_eq_getElem hj]
    rfl
theorem below_grown {a b c : World} {g : Nat} (h : Below a.heap.size a b) (hg : b.grownBy c (some g)) (hge : a.heap.size ≤ g) : Below a.heap.size a c := h.grown hg h.size (fun k e => by injection e with e; omega)
set_option maxRecDepth 100000 in
set_option maxHeartbeats 4000000 in
theorem pads_any (n : Nat) (hn : n < 18446744073709551616) (w : World) : Calls Try.prog 5 #[.int .u64 (n : Int)] w fun e w' => e = .returned (.bool true) ∧ Below w.heap.size w w' := by
  have hpb := plen_bd n
  have hpl : (padL n).length = plen n := padP_len n 8
  have hz := padL_bd n
  have c1 := a_pad n hn
  have c2 := r_pad n hn
  go_enter Try.func5, Try.ntmps5
  go_wp2_with (fail)
  refine (c1 w).mono ?_
  rintro e_ w1 ⟨va, ga, rfl, rfl, hga, ra, hw⟩
  go_wp2_with (fail)
  refine (c1 w1).mono ?_
  rintro e_ w2 ⟨vb, gb, rfl, rfl, hgb, rb, hb⟩
  have la := lt_of_row ra
  replace ra := keep hb ra
  have hs1 := hw.size
  replace hw := Below.after hw hb
  clear hb
  go_wp2_with (fail)
  refine (c2 w2).mono ?_
  rintro e_ w3 ⟨vp, rfl, hp, hb⟩
  have lb := lt_of_row rb
  replace ra := keep hb ra
  replace rb := keep hb rb
  replace hw := Below.after hw hb
  clear hb c2
  have hla : (padL n).length ≤ 9223372036854775807 := by omega
  have ba : Bys w3 (.slice (some ⟨ga, 0, none⟩) (plen n) (plen n)) (padL n) := by rw [← hpl]; exact Bys.of_row ra hla hz _
  have bb : Bys w3 (.slice (some ⟨gb, 0, none⟩) (plen n) (plen n)) (padL n) := by rw [← hpl]; exact Bys.of_row rb hla hz _
  have bp := Bys.of_own hp hla hz
  go_wp2_with (fail)
  refine (same_any (padL n) w3 _ _ ba bp).mono ?_
  rintro e_ w4 ⟨rfl, hb⟩
  replace bb := bb.keep hb
  replace bp := bp.keep hb
  replace ra := keep hb ra
  replace rb := keep hb rb
  have hs4 := hb.size
  replace hp : w4.ownsRow w2.heap.size 5 1 vp (plen n) ((padL n).map (Value.int .u8)) := by
    obtain ⟨h1, h2 | ⟨g, cap, cur, rfl, hb2, hg, h3⟩⟩ := hp
    · exact ⟨h1, .inl h2⟩
    · exact ⟨h1, .inr ⟨g, cap, cur, rfl, hb2, keep hb hg, h3⟩⟩
  replace hw := Below.after hw hb
  clear hb ba
  go_wp2_with (fail)
  refine (same_any (padL n) w4 _ _ bb bp).mono ?_
  rintro e_ w5 ⟨rfl, hb⟩
  replace ra := keep hb ra
  replace rb := keep hb rb
  replace hp : w5.ownsRow w2.heap.size 5 1 vp (plen n) ((padL n).map (Value.int .u8)) := by
    obtain ⟨h1, h2 | ⟨g, cap, cur, rfl, hb2, hg, h3⟩⟩ := hp
    · exact ⟨h1, .inl h2⟩
    · exact ⟨h1, .inr ⟨g, cap, cur, rfl, hb2, keep hb hg, h3⟩⟩
  replace hw := Below.after hw hb
  clear hb bb bp
  go_wp2_with (fail)
  refine (full_any ga (plen n) (plen n) 7 _ w5 ra (by rw [irow_size, hpl]) (Nat.le_refl _) (by unfold maxLen; omega) (by omega)).mono ?_
  rintro e_ w6 ⟨rfl, hgr⟩
  replace rb : w6.heap[gb]? = _ := (hgr.block gb (lt_of_row rb) (by intro e; injection e with e; omega)).trans rb
  replace hp := hp.kept hgr (.inr (by
    intro e
    have := (hp.lt ga e).1
    omega))
  replace hw := below_grown hw hgr hga
  clear hgr ra
  have bb : Bys w6 (.slice (some ⟨gb, 0, none⟩) (plen n) (plen n)) (padL n) := by rw [← hpl]; exact Bys.of_row rb hla hz _
  have bp := Bys.of_own hp hla hz
  go_wp2_with (fail)
  refine (same_any (padL n) w6 _ _ bb bp).mono ?_
  rintro e_ w7 ⟨rfl, hb⟩
  replace bp := bp.keep hb
  replace hw := Below.after hw hb
  clear hb bb
  go_wp2_with (fail)
  refine (c1 w7).mono ?_
  rintro e_ w8 ⟨vc, gc, rfl, rfl, hgc, rc, hb⟩
  replace bp := bp.keep hb
  replace hw := Below.after hw hb
  clear hb
  have bc : Bys w8 (.slice (some ⟨gc, 0, none⟩) (plen n) (plen n)) (padL n) := by rw [← hpl]; exact Bys.of_row rc hla hz _
  go_wp2_with (fail)
  refine (same_any (padL n) w8 _ _ bc bp).mono ?_
  rintro e_ w9 ⟨rfl, hb⟩
  replace hw := Below.after hw hb
  go_wp2
  go_ret
  exact ⟨rfl, hw⟩

end Go.Proofs.Ytelildhjkknaiaa.Wi

