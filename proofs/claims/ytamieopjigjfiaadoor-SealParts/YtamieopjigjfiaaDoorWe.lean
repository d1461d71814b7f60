import Derived.Test.YtamieopjigjfiaaDoorWa
import Derived.OwnWalk
import Derived.Test.YtamieopjigjfiaaDoorWc
namespace Go.Proofs.YtamieopjigjfiaaDoor
set_option maxRecDepth 100000
open Go Go.RowKit Go.Sort
attribute [local go_sem] setCell_drewN alloc_drewN

/-- How long a slice is. -/
def slen5 : Value → Nat
  | .slice _ l _ => l
  | _ => 0
theorem slen_own5 {W : World} {b : Nat} {T : TypeId} {sz : Nat} {v : Value} {n : Nat} {xs : List Value} (h : W.ownsRow b T sz v n xs) : ∃ ao cap, v = .slice ao n cap := by
  obtain ⟨_, ⟨rfl, rfl⟩ | ⟨g, cap, cur, rfl, _⟩⟩ := h
  · exact ⟨_, _, rfl⟩
  · exact ⟨_, _, rfl⟩
set_option maxRecDepth 100000 in
theorem info85 : ∃ i, Tryd.prog.info? 5 = some i ∧ i.zero = some (.int .u8 0) ∧ i.size = 1 ∧ i.bytes = 1 := ⟨_, rfl, rfl, rfl, rfl⟩
theorem new_cell5 (wr : World) (x : Int) : ∀ j u, [Value.int .u8 x][j]? = some u → (wr.alloc (.cells #[.int .u8 x] 5)).cell? ((⟨wr.heap.size, 0, none⟩ : Addr).add j) = some u := by
  intro j u hu
  have hj : j = 0 := by
    have := (List.getElem?_eq_some_iff.1 hu).1
    simp at this
    exact this
  subst hj
  simp at hu
  subst hu
  rw [addr_add]
  have hg : (wr.alloc (.cells #[.int .u8 x] 5)).heap[wr.heap.size]? = some (.cells #[.int .u8 x] 5 (0, 0)) := hp1_0 wr _
  simp only [World.cell?, hg]
  rfl

/-- An append whose row is either the old one or a new block. -/
theorem wpList_append_two5 {P : Program} (w : World) {ops : Array Oper} {rest : List Oper} {o : Oper} {a : Act} {Q : Exit → Act → World → Prop} (hgd : o.guard = none) (s x : Operand) (t : TypeId)
    (ho : o.op = .call { callee := .builtin .append, args := #[s, x], argTypes := #[t, t] })
    (base : Nat) (e : TypeId) (i : TypeInfo) (z : Value) (ht : P.underlying t = some (.slice e)) (hi : P.info? e = some i) (hz : i.zero = some z)
    (hsize : i.size = 1) (hby : i.bytes = 1) (hzs : z.cells.size = 1)
    (g n cap : Nat) (xs : List Value) (hs : a.eval s = .slice (some ⟨g, 0, none⟩) n cap) (hown : w.ownsRow base e 1 (.slice (some ⟨g, 0, none⟩) n cap) n xs)
    (ad : Addr) (m c : Nat) (news : List Value) (hx : a.eval x = .slice (some ad) m c) (hl : news.length = m * 1) (hnews : ∀ j u, news[j]? = some u → w.cell? (ad.add j) = some u) (h1 : ∀ u ∈ news, u.oneCell' = true)
    (h63 : n + m ≤ maxLen) (hbytes : (n + m) * 1 ≤ 140737488355328) (hbase : base ≤ w.heap.size)
    (h : ∀ g' cap' w', w'.ownsRow base e 1 (.slice (some ⟨g', 0, none⟩) (n + m) cap') (n + m) (xs ++ news) → w.grownBy w' (some g) → (g' = g ∨ g' = w.heap.size) → wpList P ops Q rest (a.put o.dst (.slice (some ⟨g', 0, none⟩) (n + m) cap')) w') : wpList P ops Q (o :: rest) a w := by
  refine wpList_plain hgd fun K hK => ?_
  obtain ⟨v', w', hr, h2, h3, _⟩ := run_append_own (P := P) w base t o.type e i z 1 1 ht hi hz hsize hby hzs (by decide) _ n xs hown ad m c news hl hnews h1 h63 hbytes hbase
  have key : ∃ g' cap', v' = .slice (some ⟨g', 0, none⟩) (n + m) cap' ∧ (g' = g ∨ g' = w.heap.size) := by
    rcases hown.2 with ⟨hv, _⟩ | ⟨g1, cap1, cur, hv, hbg, hg, hnc, hcm, hcs, htake⟩
    · cases hv
    · cases hv
      by_cases hroom : n + m ≤ cap
      · have hr2 := run_append_room (P := P) w t o.type e i ht hi g n cap cur hg ad m c news (by rw [hsize]; exact hl) hnews h1 hroom (by rw [hsize, hl, hcs]; omega)
        have := hr.symm.trans hr2
        injection this with e1 e2
        exact ⟨g, cap, e1, .inl rfl⟩
      · have holds : ∀ j u, xs[j]? = some u → w.cell? ((⟨g, 0, none⟩ : Addr).add j) = some u := hown.cells (g := g) rfl
        have hr2 := run_append_grow (P := P) w t o.type e i z ht hi hz ⟨g, 0, none⟩ n cap xs (by rw [hsize]; exact hown.1) holds ad m c news (by rw [hsize]; exact hl) hnews (by omega) (by simp only [maxLen] at h63; omega) (growslice_fits (by omega) (by rw [hby]; exact hbytes))
        have := hr.symm.trans hr2
        injection this with e1 e2
        exact ⟨_, _, e1, .inr rfl⟩
  obtain ⟨g', cap', rfl, hgg⟩ := key
  unfold Oper.wp execOp
  simp only [ho, resolve, invoke, builtin, Sem.run_bind, Sem.run_pure, Result.andThen_ok, List.map_toArray, List.map_cons, List.map_nil, hs, hx, hr]
  exact hK _ _ (h g' cap' w' h2 h3 hgg)
theorem grown_trans5 {a b c : World} {row : Option Nat} {g : Nat} (h : a.grownBy b (some g)) (h2 : b.grownBy c row) (hr : row = none ∨ row = some g ∨ ∃ k, row = some k ∧ a.heap.size ≤ k) : a.grownBy c (some g) := by
  refine ⟨h2.os.trans h.os, h2.tape.trans h.tape, h2.output.trans h.output, Nat.le_trans h.size h2.size, fun k hk hn => ?_⟩
  have h3 := h.size
  refine (h2.block k (by omega) ?_).trans (h.block k hk hn)
  rcases hr with rfl | rfl | ⟨q, rfl, hq⟩
  · simp
  · exact hn
  · intro e; injection e with e; omega
theorem grown_setCell5 {a b : World} {g j : Nat} {v : Value} (h : a.grownBy b (some g)) : a.grownBy (b.setCell ⟨g, j, none⟩ v) (some g) := by
  refine ⟨h.os, h.tape, h.output, ?_, fun k hk hn => ?_⟩
  · have e : (b.setCell ⟨g, j, none⟩ v).heap.size = b.heap.size := by simp [World.setCell]
    rw [e]; exact h.size
  · rw [heap_setCell_other b ⟨g, j, none⟩ k v (fun e => hn (by rw [e]))]
    exact h.block k hk hn
/-- The marked room behind what is lent. -/
def marks (k : Nat) : List Int := (List.range k).map fun (i : Nat) => 171 + ((i % 60 : Nat) : Int)
theorem marks_succ (k : Nat) : marks (k + 1) = marks k ++ [171 + ((k % 60 : Nat) : Int)] := by simp [marks, List.range_succ]
theorem at_low (bs : List Int) (k : Nat) (hk : k < bs.length) : (bs ++ marks 80).getD k 0 = bs.getD k 0 := by
  simp [List.getD_eq_getElem?_getD, List.getElem?_append_left hk]
theorem at_high (bs : List Int) (k : Nat) (hk : ¬ k < bs.length) (hu : k < bs.length + 80) : (bs ++ marks 80).getD k 0 = 171 + ((k : Int) - bs.length) % 60 := by
  have : k - bs.length < 80 := by omega
  rw [List.getD_eq_getElem?_getD, List.getElem?_append_right (by omega)]
  simp [marks, this]
  omega
end Go.Proofs.YtamieopjigjfiaaDoor

namespace Go.Proofs.YtamieopjigjfiaaDoor
set_option maxRecDepth 100000
open Go Go.RowKit Go.Sort
attribute [local go_sem] setCell_drewN alloc_drewN

/-! The reference's Inverse, quick, spread. -/
/-- The state of quick. -/
def qst : Nat → B → B × B
  | 0, a => (1#8, a)
  | k + 1, a => (tm (qst k a).1 (tm (qst k a).2 (qst k a).2), tm (qst k a).2 (qst k a).2)
theorem qk_qst (a : B) : ∀ n k, qk n (qst k a).1 (qst k a).2 = (qst (k + n) a).1 := by
  intro n
  induction n with
  | zero => intro k; rfl
  | succ n ih =>
    intro k
    have := ih (k + 1)
    rw [qst] at this
    rw [qk, this]
    congr 2
    omega
set_option maxHeartbeats 1000000 in
theorem r_quick (a : B) : Gives 65 #[.int .u8 (bv a)] (.int .u8 (bv (qk 7 1#8 a))) := by
  intro w
  rw [show qk 7 1#8 a = (qst 7 a).1 from qk_qst a 7 0]
  go_enter Tryd.func65, Tryd.ntmps65
  go_wp2_with (fail)
  go_loopw [3, 4, 5] (fun x y i wr => ∃ k : Nat, k ≤ 7 ∧ i = .int .i64 k ∧ x = .int .u8 (bv (qst k a).1) ∧ y = .int .u8 (bv (qst k a).2) ∧ Below w.heap.size w wr) (fun _ _ i _ => 7 - (intOf i).toNat)
  case atStart => exact ⟨0, by omega, rfl, rfl, rfl, Below.refl _ _⟩
  case round =>
    obtain ⟨k, hk, rfl, rfl, rfl, hw⟩ := hrel
    by_cases hlt : k < 7
    · have hd : decide ((k : Int) < 7) = true := by simp; omega
      have e1 : tm (qst k a).1 (tm (qst k a).2 (qst k a).2) = (qst (k + 1) a).1 := rfl
      have e2 : tm (qst k a).2 (qst k a).2 = (qst (k + 1) a).2 := rfl
      have c := r_times (qst k a).2 (qst k a).2
      rw [e2] at c e1
      have c2 := r_times (qst k a).1 (qst (k + 1) a).2
      rw [e1] at c2
      clear e1 e2
      go_wp2_with (fail)
      refine (c.at _).mono ?_
      rintro e w1 ⟨rfl, hb⟩
      go_wp2_with (fail)
      refine (c2.at _).mono ?_
      rintro e w2 ⟨rfl, hb2⟩
      go_wp2
      go_roundw
      case rel => exact ⟨k + 1, by omega, by go_num, rfl, rfl, Below.after (Below.after hw hb) hb2⟩
      case measure => simp [intOf]; omega
    · obtain rfl : k = 7 := by omega
      have hd : decide ((7 : Int) < 7) = false := by decide
      obtain ⟨T, hT⟩ : ∃ T, T = qst 7 a := ⟨_, rfl⟩
      rw [← hT]
      replace hT := hide hT
      clear hlt hk
      go_wp2
      go_ret
      rw [← hT.out]
      exact ⟨rfl, hw⟩
/-- One bit of spread, and spread, as they are put together. -/
def bt (y : B) (i : Nat) : Nat → B
  | 0 => 0#8
  | j + 1 => if j = 0 ∨ 4 ≤ j then bt y i j ^^^ ((y >>> ((i + j) % 8)) &&& 1#8) else bt y i j
def rf (y : B) : Nat → B
  | 0 => 0x63#8
  | i + 1 => rf y i ^^^ (bt y i 8 <<< i)
theorem rf_spr : ∀ y : B, rf y 8 = spr y := by decide +kernel
theorem e_bit (y : B) (n : Nat) : bv y / 2 ^ n % 2 = bv ((y >>> n) &&& 1#8) := by
  unfold bv
  rw [BitVec.toNat_and, BitVec.toNat_ushiftRight, Nat.shiftRight_eq_div_pow]
  rw [show BitVec.toNat 1#8 = 1 from rfl, Nat.and_one_is_mod]
  simp
theorem e_tbit (y : B) (n : Nat) : (bv y / 2 ^ n).tmod 2 = bv ((y >>> n) &&& 1#8) := by
  rw [Int.tmod_eq_emod_of_nonneg, e_bit]
  exact Int.ediv_nonneg (bnd y).1 (Int.pow_nonneg (by decide))
theorem e_shl (c : B) (n : Nat) : bv c * 2 ^ n % 256 = bv (c <<< n) := by
  unfold bv
  rw [BitVec.toNat_shiftLeft, Nat.shiftLeft_eq]
  simp
set_option maxHeartbeats 1000000 in
theorem r_spread (y : B) : Gives 64 #[.int .u8 (bv y)] (.int .u8 (bv (spr y))) := by
  intro w
  rw [← rf_spr]
  have hy := bnd y
  go_enter Tryd.func64, Tryd.ntmps64
  go_wp2_with (fail)
  go_loopw [3, 4] (fun x i wr => ∃ k : Nat, k ≤ 8 ∧ i = .int .i64 k ∧ x = .int .u8 (bv (rf y k)) ∧ Below w.heap.size w wr) (fun _ i _ => 8 - (intOf i).toNat)
  case atStart => exact ⟨0, by omega, rfl, rfl, Below.refl _ _⟩
  case round =>
    obtain ⟨k, hk, rfl, rfl, hw⟩ := hrel
    by_cases hlt : k < 8
    · have hd : decide ((k : Int) < 8) = true := by simp; omega
      have hr := bnd (rf y k)
      obtain ⟨R, hR⟩ : ∃ R, R = rf y k := ⟨_, rfl⟩
      rw [← hR] at hr ⊢
      replace hR := hide hR
      go_wp2_with (fail)
      go_loopw [5, 6] (fun x j W => ∃ l : Nat, l ≤ 8 ∧ j = .int .i64 l ∧ x = .int .u8 (bv (bt y k l)) ∧ W = wr) (fun _ j _ => 8 - (intOf j).toNat)
      case atStart => exact ⟨0, by omega, rfl, rfl, rfl⟩
      case round =>
        obtain ⟨l, hl, rfl, rfl, rfl⟩ := hrel
        by_cases hl8 : l < 8
        · have hd : decide ((l : Int) < 8) = true := by simp; omega
          have hb := bnd (bt y k l)
          by_cases hq : l = 0 ∨ 4 ≤ l
          · have hst : Hid (bt y k (l + 1) = bt y k l ^^^ ((y >>> ((k + l) % 8)) &&& 1#8)) := hide (by rw [bt, if_pos hq])
            rcases hq with hl0 | hl4
            · subst hl0
              go_wp2
              refine ⟨⟨1, by omega, rfl, ?_, trivial⟩, by simp [intOf]⟩
              rw [show (1 : Nat) = 0 + 1 from rfl, hst.out, ← xor8, ← e_tbit, Nat.add_zero]
            · have h0 : ¬ l = 0 := by omega
              have h4 : (4 : Int) ≤ (l : Int) := by omega
              go_wp2
              refine ⟨⟨l + 1, by omega, by go_num, ?_, trivial⟩, by simp [intOf]; omega⟩
              rw [hst.out, ← xor8, ← e_tbit]
          · have hst : Hid (bt y k (l + 1) = bt y k l) := hide (by rw [bt, if_neg hq])
            have h0 : ¬ l = 0 := by omega
            have h4 : ¬ (4 : Int) ≤ (l : Int) := by omega
            go_wp2
            refine ⟨⟨l + 1, by omega, by go_num, by rw [hst.out], trivial⟩, by simp [intOf]; omega⟩
        · obtain rfl : l = 8 := by omega
          have hd : decide ((8 : Int) < 8) = false := by decide
          have hst : Hid (rf y (k + 1) = R ^^^ (bt y k 8 <<< k)) := hide (by rw [hR.out, rf])
          generalize bt y k 8 = C at *
          have hb := bnd C
          go_wp2
          refine ⟨⟨k + 1, by omega, by go_num, ?_, hw⟩, by simp [intOf]; omega⟩
          rw [hst.out, ← xor8, ← e_shl]
    · obtain rfl : k = 8 := by omega
      have hd : decide ((8 : Int) < 8) = false := by decide
      obtain ⟨T, hT⟩ : ∃ T, T = rf y 8 := ⟨_, rfl⟩
      rw [← hT]
      replace hT := hide hT
      clear hlt hk
      go_wp2
      go_ret
      rw [← hT.out]
      exact ⟨rfl, hw⟩
set_option maxRecDepth 100000 in
set_option maxHeartbeats 4000000 in
theorem r_table : Gives 44 #[] (.agg (irow .u8 (bl sbl))) := by
  intro w
  have hz : ∀ W : World, (Instr.alloc 61 true (.tuple #[])).run Tryd.prog W = .ok (.pointer (some ⟨W.heap.size, 0, none⟩)) (W.alloc (.cells (irow .u8 (bl (pt (fun x => sb (BitVec.ofNat 8 x)) 256 0))) 61)) := by rw [← zr_pt]; exact z256
  have R0 := hp2_0 w (.cells (irow .u8 (bl (pt (fun x => sb (BitVec.ofNat 8 x)) 256 0))) 61) (.cells (irow .u8 (bl (pt (fun x => sb (BitVec.ofNat 8 x)) 256 0))) 61)
  have R1 := hp2_1 w (.cells (irow .u8 (bl (pt (fun x => sb (BitVec.ofNat 8 x)) 256 0))) 61) (.cells (irow .u8 (bl (pt (fun x => sb (BitVec.ofNat 8 x)) 256 0))) 61)
  have HW := (((Below.refl w.heap.size w).alloc (Nat.le_refl _) (.cells (irow .u8 (bl (pt (fun x => sb (BitVec.ofNat 8 x)) 256 0))) 61)).alloc (by simp) (.cells (irow .u8 (bl (pt (fun x => sb (BitVec.ofNat 8 x)) 256 0))) 61))
  go_enter Tryd.func44, Tryd.ntmps44
  go_wp2_with (first | (refine wpList_alloc rfl 61 rfl (irow .u8 (bl (pt (fun x => sb (BitVec.ofNat 8 x)) 256 0))) hz ?_) | fail)
  clear hz
  generalize World.alloc _ _ = w0 at *
  go_loopw [2] (fun i wr => ∃ k : Nat, k ≤ 256 ∧ i = .int .i64 k ∧ wr.heap[w.heap.size]? = some (.cells (irow .u8 (bl (pt (fun x => sb (BitVec.ofNat 8 x)) 256 0))) 61 (0, 0)) ∧ wr.heap[w.heap.size + 1]? = some (.cells (irow .u8 (bl (pt (fun x => sb (BitVec.ofNat 8 x)) 256 k))) 61 (0, 0)) ∧ Below w.heap.size w wr) (fun i _ => 256 - (intOf i).toNat)
  case atStart => exact ⟨0, by omega, rfl, R0, R1, HW⟩
  case round =>
    clear R0 R1 HW
    obtain ⟨k, hk, rfl, r0, r1, hw⟩ := hrel
    by_cases hlt : k < 256
    · have hd : decide ((k : Int) < 256) = true := by simp; omega
      have c1 := r_quick (BitVec.ofNat 8 k)
      have c2 := r_spread (qk 7 1#8 (BitVec.ofNat 8 k))
      rw [← sb_qk] at c2
      rw [of_bv k hlt] at c1
      have hset := hide (pt_set (fun x => sb (BitVec.ofNat 8 x)) 256 k hlt)
      go_wp2_with (fail)
      refine (c1.at _).mono ?_
      rintro e w1 ⟨rfl, hb⟩
      replace r0 := keep hb r0
      replace r1 := keep hb r1
      replace hw := Below.after hw hb
      clear hb c1
      go_wp2_with (fail)
      refine (c2.at _).mono ?_
      rintro e w2 ⟨rfl, hb⟩
      replace r0 := keep hb r0
      replace r1 := keep hb r1
      replace hw := Below.after hw hb
      clear hb c2
      have c0 := brow_cell r1 (j := k) (by rw [pt_len]; exact hlt)
      have hf := row_frozen r1 k
      go_wp2
      refine ⟨⟨k + 1, by omega, by go_num, heap_other r0 (by omega), by rw [← hset.out]; exact brow_set r1 k _, hw.setCell (show w.heap.size ≤ w.heap.size + 1 by omega) _⟩, by simp [intOf]; omega⟩
    · obtain rfl : k = 256 := by omega
      have hd : decide ((256 : Int) < 256) = false := by decide
      replace r1 : wr.heap[w.heap.size + 1]? = some (.cells (irow .u8 (bl sbl)) 61 (0, 0)) := r1
      have hin := info256 sbl sbl_len
      have hfi := fit256 (pt (fun x => sb (BitVec.ofNat 8 x)) 256 0) sbl (pt_len _ _ _) sbl_len
      clear hk hlt
      go_wp2_with (first | (refine wpList_load_want rfl 61 _ rfl (w.heap.size + 1) rfl 61 (irow .u8 (bl sbl)) (0, 0) _ r1 Tryd.underlying61 rfl hin ?_) | (refine wpList_store_row rfl 61 _ _ rfl (w.heap.size) (irow .u8 (bl sbl)) rfl rfl 61 _ r0 hin hfi (irow_one _ _) ?_) | fail)
      replace r0 := setRow_heap wr (w.heap.size) _ (irow .u8 (bl sbl)) _ _ r0
      replace hw := below_setRow hw (Nat.le_refl _) (irow .u8 (bl sbl))
      generalize wr.setRow (w.heap.size) (irow .u8 (bl sbl)) = w9 at *
      exact bodyPost_ret (v := .agg (irow .u8 (bl sbl))) (results_cell_row Tryd.results44 _ _ (w.heap.size) _ _ _ _ rfl r0 Tryd.underlying61 rfl hin) rfl ⟨rfl, hw⟩
theorem sb_eq_iff (x : B) (k : Nat) (hk : k < 256) : sb (BitVec.ofNat 8 k) = x ↔ k = (bk x).toNat := by
  constructor
  · intro h
    rw [← h, bk_sb, BitVec.toNat_ofNat]; omega
  · intro h
    rw [h, BitVec.ofNat_toNat, BitVec.setWidth_eq, sb_bk]
end Go.Proofs.YtamieopjigjfiaaDoor
