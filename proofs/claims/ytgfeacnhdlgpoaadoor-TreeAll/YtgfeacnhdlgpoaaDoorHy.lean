import Derived.Test.YtgfeacnhdlgpoaaDoorProg
import Derived.WalkKit
import Derived.WalkSpells
import Derived.WalkLawsBesides
import Derived.Lib.QuietBelow
import Derived.BigQuiet
import Derived.Test.YtgfeacnhdlgpoaaDoorKa
import Derived.Test.YtgfeacnhdlgpoaaDoorHx
import Derived.Test.YtgfeacnhdlgpoaaDoorHs
namespace Go.Proofs.YtgfeacnhdlgpoaaDoor
set_option maxRecDepth 100000
open Go Go.RowKit Go.Sort
attribute [local go_sem] setCell_drewN alloc_drewN

theorem cell_of {W : World} {g : Nat} {cs : Array Value} {t : TypeId} (hg : W.heap[g]? = some (.cells cs t (0, 0))) {j : Nat} {v : Value} (h : cs[j]? = some v) : W.cell? ⟨g, j, none⟩ = some v := by
  rw [cell_of_row _ _ _ _ _ _ hg]; exact h
theorem blk_lt {w : World} {b o : Nat} {v : Value} (h : w.cell? ⟨b, o, none⟩ = some v) : b < w.heap.size := by
  rcases Nat.lt_or_ge b w.heap.size with q | q
  · exact q
  · simp [World.cell?, Array.getElem?_eq_none q] at h
theorem grown_below {a b c : World} {g : Nat} (h : a.grownBy b (some g)) (hb : Below b.heap.size b c) : a.grownBy c (some g) :=
  ⟨hb.os.trans h.os, hb.tape.trans h.tape, hb.output.trans h.output, Nat.le_trans h.size hb.size, fun k hk hn => (hb.block k (Nat.lt_of_lt_of_le hk h.size)).trans (h.block k hk hn)⟩
theorem Kon.grown {a b : World} {g : Nat} (h : Kon a) (hg : a.grownBy b (some g)) (hne : g ≠ 1) : Kon b := by
  obtain ⟨t, fr, h⟩ := h
  exact ⟨t, fr, (hg.block 1 (Array.getElem?_eq_some_iff.1 h).1 (by intro e; injection e with e; exact hne e.symm)).trans h⟩
theorem Sta.grown {a b : World} {g : Nat} (h : Sta a) (hg : a.grownBy b (some g)) (hne : g ≠ 0) : Sta b := by
  obtain ⟨t, fr, h⟩ := h
  exact ⟨t, fr, (hg.block 0 (Array.getElem?_eq_some_iff.1 h).1 (by intro e; injection e with e; exact hne e.symm)).trans h⟩
theorem grown_setRow {a b : World} {g : Nat} (cs : Array Value) (h : a.grownBy b (some g)) : a.grownBy (b.setRow g cs) (some g) := by
  refine ⟨h.os, h.tape, h.output, ?_, fun k hk hn => ?_⟩
  · have e : (b.setRow g cs).heap.size = b.heap.size := by simp
    rw [e]; exact h.size
  · rw [setRow_other b g k cs (fun e => hn (by rw [e]))]
    exact h.block k hk hn
theorem slice_part (g r : Nat) (hr : r < 64) (W : World) : (Instr.sliceAt 104 (.pointer (some ⟨g, 8, none⟩)) (some (.int .u64 (r : Int))) none none).run Tryd.prog W = .ok (.slice (some ⟨g, 8 + r, none⟩) (64 - r) (64 - r)) W := by
  have ht : Tryd.prog.underlying 104 = some (.array (Tryd.prog.arrayLen 104) (Tryd.prog.elem 104)) := by kernel_rfl
  have hn : Tryd.prog.arrayLen 104 = 64 := by kernel_rfl
  have hs : (sizeOf (Tryd.prog.elem 104)).run Tryd.prog W = .ok 1 W := by kernel_rfl
  rw [run_sliceAt_array_l W _ _ ht .u64 _ (by omega) (by rw [hn]; omega), hs]
  show Result.ok (slicedAt _ _ _ _ 1) W = _
  rw [Int.toNat_natCast, hn, slicedAt, if_neg (by omega), addr_add]
  simp
theorem elem8 : Tryd.prog.underlying 22 = some (.slice (Tryd.prog.elem 22)) := by kernel_rfl
theorem size8 (W : World) : (sizeOf (Tryd.prog.elem 22)).run Tryd.prog W = .ok 1 W := by kernel_rfl
theorem slice_first (ad : Addr) (m c n : Nat) (h : n ≤ c) (W : World) : (Instr.sliceAt 22 (.slice (some ad) m c) none (some (.int .i64 (n : Int))) (some (.int .i64 (n : Int)))).run Tryd.prog W = .ok (.slice (some (if n = 0 then ad else ad.add 0)) n n) W := by
  rw [run_sliceAt_slice _ _ _ _ _ _ elem8, run_slice_hm W 22 (some ad) m c elem8 .i64 .i64 _ _ (by omega) (Int.le_refl _) (by omega), size8]
  show Result.ok (sliced _ _ _ _ 1) W = _
  rw [Int.toNat_natCast, sliced, Nat.zero_mul]
  by_cases e : n = 0
  · rw [if_pos e, if_pos e]; rfl
  · rw [if_neg e, if_neg e]; rfl
theorem slice_rest (b0 o m c n : Nat) (h : n ≤ m) (hc : m ≤ c) : ∃ ao2 : Option Addr, (n < m → ao2 = some ⟨b0, o + n, none⟩) ∧ ∀ W, (Instr.sliceAt 22 (.slice (some ⟨b0, o, none⟩) m c) (some (.int .i64 (n : Int))) none none).run Tryd.prog W = .ok (.slice ao2 (m - n) (c - n)) W := by
  refine ⟨if c = n then some ⟨b0, o, none⟩ else some ⟨b0, o + n, none⟩, fun hn => if_neg (by omega), fun W => ?_⟩
  rw [run_sliceAt_slice _ _ _ _ _ _ elem8, run_slice_l W 22 (some ⟨b0, o, none⟩) m c elem8 .i64 _ (by omega) (by omega), size8]
  show Result.ok (sliced _ _ _ _ 1) W = _
  rw [Int.toNat_natCast, sliced, Nat.mul_one, Option.map_some, addr_add]
theorem zbuilt : Tryd.prog.built 104 [] = some (irow .u8 (zr 64)) := by kernel_rfl
theorem copy_part {W : World} {g r b0 o n : Nat} {ws ps c : List Int} {sz : Int} (hg : W.heap[g]? = some (.cells (hcells ws ps sz) 106 (0, 0))) (h1 : ws.length = 8) (h2 : ps.length = 64) (hc : ∀ j, j < c.length → W.cell? ⟨b0, o + j, none⟩ = some (.int .u8 (c.getD j 0))) (hn : c.length = n) (hr : r + n ≤ 64) :
    (Builtin.copy_ #[22, 22] 3 #[.slice (some ⟨g, 8 + r, none⟩) (64 - r) (64 - r), .slice (some ⟨b0, o, none⟩) n n]).run Tryd.prog W = .ok (goInt n) (W.setRow g (hcells ws (ps.take r ++ c ++ ps.drop (r + n)) sz)) := by
  have hsrc : ∀ j u, (c.map (Value.int .u8))[j]? = some u → W.cell? ((⟨b0, o, none⟩ : Addr).add j) = some u := by
    intro j u hu
    have hj : j < c.length := by have := (List.getElem?_eq_some_iff.1 hu).1; simpa using this
    have : u = .int .u8 (c.getD j 0) := by
      simp only [List.getElem?_map, List.getElem?_eq_getElem hj, Option.map_some, Option.some.injEq] at hu
      rw [← hu, List.getD_eq_getElem?_getD, List.getElem?_eq_getElem hj]; rfl
    rw [this, addr_add]
    exact hc j hj
  have hrun := run_copy_row (P := Tryd.prog) W 22 22 3 5 g (8 + r) (64 - r) (64 - r) ⟨b0, o, none⟩ n n (hcells ws ps sz) 106 (c.map (Value.int .u8)) Tryd.underlying22 (by kernel_rfl) hg (by rw [List.length_map, hn]; exact (Nat.min_eq_left (by omega)).symm) hsrc (by rw [hcells_size _ _ _ h1 h2, List.length_map]; omega) (ints_one .u8 c)
  rw [hcells_copy ws ps c sz r h1 h2 (by omega), List.length_map, hn] at hrun
  exact hrun
set_option maxRecDepth 100000 in
set_option maxHeartbeats 8000000 in
theorem a_write (bs b : List Int) (g : Nat) (w : World) (v : Value) (hH : w.heap[g]? = some (.cells (hst bs) 106 (0, 0))) (hB : Bys w v b) (hne : ∀ a l c, v = .slice (some a) l c → 0 < l → a.block ≠ g) (hcap : ∀ a l c, v = .slice a l c → l ≤ c) (hg1 : 1 < g) (hK : Kon w) (hzb : ∀ z ∈ bs, 0 ≤ z ∧ z < 256) (hlim : bs.length + b.length ≤ 4611686018427387904) :
    Calls Tryd.prog 47 #[.pointer (some ⟨g, 0, none⟩), v] w fun e w' => e = .returned (.tuple #[]) ∧ w'.heap[g]? = some (.cells (hst (bs ++ b)) 106 (0, 0)) ∧ w.grownBy w' (some g) := by
  obtain ⟨ao, cap, rfl, hl63, hc, hz⟩ := hB
  replace hcap := hcap _ _ _ rfl
  generalize elen : b.length = len at *
  have hgl := lt_of_row hH
  go_enter Tryd.func47, Tryd.ntmps47
  go_wp2_with (fail)
  go_loopw [1] (fun x wr => ∃ (k : Nat) (ao' : Option Addr), k ≤ len ∧ x = .slice ao' (len - k) (cap - k) ∧ (k < len → ∃ b0 off, ao = some ⟨b0, off, none⟩ ∧ ao' = some ⟨b0, off + k, none⟩) ∧ wr.heap[g]? = some (.cells (hst (bs ++ b.take k)) 106 (0, 0)) ∧ w.grownBy wr (some g)) (fun x _ => slen x)
  case atStart =>
    refine ⟨0, ao, by omega, rfl, fun h => ?_, by simpa using hH, World.grownBy.refl _ _⟩
    obtain ⟨b0, off, e, _⟩ := hc 0 h
    exact ⟨b0, off, e, e⟩
  case round =>
    obtain ⟨k, ao', hk, rfl, hadr, rH, hw⟩ := hrel
    by_cases hlt : k < len
    · obtain ⟨b0, off, rfl, rfl⟩ := hadr hlt
      have hb0 := hne _ _ _ rfl (by omega)
      replace hb0 : b0 ≠ g := hb0
      have hcell : ∀ j, j < len → wr.cell? ⟨b0, off + j, none⟩ = some (.int .u8 (b.getD j 0)) := fun j hj => by
        obtain ⟨b1, o1, e, hb1, hb2⟩ := hc j hj
        cases e
        exact hw.cell hb2 (by intro e; injection e with e; exact hb0 e)
      have f4 : Kon wr := by
        obtain ⟨t, fr, h⟩ := hK
        exact ⟨t, fr, (hw.block 1 (Array.getElem?_eq_some_iff.1 h).1 (by intro e; injection e with e; omega)).trans h⟩
      have hal : (bs ++ b.take k).length = bs.length + k := by rw [List.length_append, List.length_take]; omega
      have hab : ∀ z ∈ bs ++ b.take k, 0 ≤ z ∧ z < 256 := both_bd hzb (fun z h => hz z (List.mem_of_mem_take h))
      have hnx : ∀ n, bs ++ b.take (k + n) = bs ++ b.take k ++ (b.drop k).take n := fun n => by rw [List.append_assoc, ← List.take_add]
      have hgl2 := lt_of_row rH
      clear hadr hne hc hH hK hzb
      generalize bs ++ b.take k = a at *
      have hw8 := hwords_len a
      have hp64 := hpart_len a
      have hless := hst_less a
      have hfull := hst_full a
      have hwat := wat_bd (bs := a)
      have hover := fun c => part_over a c (a.length / 64) (a.length % 64) (by omega)
      rw [show prt (wat a (a.length / 64)) (a.length % 64) = hpart a from rfl] at hover
      rw [hst] at rH
      have csz := cell_of rH (hcells_at _ _ _ hw8 hp64)
      generalize eA : a.length = A at *
      obtain ⟨r, er⟩ : ∃ r : Nat, r = A % 64 := ⟨_, rfl⟩
      have hr : r < 64 := by omega
      have eri : (A : Int) % 64 = (r : Int) := by omega
      rw [← er] at hover hless hfull
      generalize A / 64 = q at *
      generalize hwords a = ws at *
      generalize hpart a = ps at *
      obtain ⟨m, em⟩ : ∃ m : Nat, m = len - k := ⟨_, rfl⟩
      rw [← em]
      have hm : 0 < m := by omega
      obtain ⟨C, eC⟩ : ∃ C : Nat, C = cap - k := ⟨_, rfl⟩
      rw [← eC]
      have hmC : m ≤ C := by omega
      have hAl : A ≤ 4611686018427387904 := by omega
      have hAm : A + m ≤ 4611686018427387904 := by omega
      clear hwat
      -- how many bytes the block takes up
      obtain ⟨n, hn1, hnm, hn64, hdec⟩ : ∃ n : Nat, 0 < n ∧ n ≤ m ∧ r + n ≤ 64 ∧ ((n = m ∧ m < 64 - r) ∨ (n = 64 - r ∧ 64 - r ≤ m)) := by
        by_cases h : m < 64 - r
        · exact ⟨m, hm, Nat.le_refl _, by omega, .inl ⟨rfl, h⟩⟩
        · exact ⟨64 - r, by omega, by omega, by omega, .inr ⟨rfl, by omega⟩⟩
      have hcl : ((b.drop k).take n).length = n := by rw [List.length_take, List.length_drop]; omega
      have hcs : ∀ j, j < ((b.drop k).take n).length → wr.cell? ⟨b0, off + k + j, none⟩ = some (.int .u8 (((b.drop k).take n).getD j 0)) := fun j hj => by
        rw [hcl] at hj
        have := hcell (k + j) (by omega)
        rw [← Nat.add_assoc] at this
        rw [this, List.getD_eq_getElem?_getD, List.getD_eq_getElem?_getD, List.getElem?_take_of_lt hj, List.getElem?_drop]
      have hnx' := hnx n
      have hov := hover ((b.drop k).take n) (by rw [hcl]; exact hn64)
      have hls := hless ((b.drop k).take n)
      have hfl := hfull ((b.drop k).take n)
      have hcb : ∀ z ∈ a ++ (b.drop k).take n, 0 ≤ z ∧ z < 256 := both_bd hab (fun z h => hz z (List.mem_of_mem_drop (List.mem_of_mem_take h)))
      have hpo := prt_bd (wat_bd hcb q) 64
      rw [hcl] at hov hls hfl
      clear hover hless hfull hnx hcell hcb hab hz
      generalize (b.drop k).take n = c at *
      generalize eo : off + k = o at *
      replace eo := hide eo
      have sl1 := slice_part g r hr
      have sl2 := slice_first ⟨b0, o, none⟩ m C n (by omega)
      rw [if_neg (show ¬ n = 0 by omega), addr_add, Nat.add_zero] at sl2
      obtain ⟨ao2, hao2, sl3⟩ := slice_rest b0 o m C n hnm hmC
      have hpl : (ps.take r ++ c ++ ps.drop (r + n)).length = 64 := by rw [hov, prt_len]
      have hcp := fun (W : World) (rW : W.heap[g]? = some (.cells (hcells ws ps (A : Int)) 106 (0, 0))) hcW => copy_part (W := W) (r := r) (b0 := b0) (o := o) (c := c) rW hw8 hp64 hcW hcl hn64
      rw [hov] at hpl
      simp only [hov] at hcp
      replace hov := hide hov
      replace hnx' := hide hnx'
      replace hls := hide hls
      replace hfl := hide hfl
      replace hpo := hide hpo
      have hAn : (A : Int) + (n : Int) < 18446744073709551616 := by omega
      rcases hdec with ⟨hE, hE2⟩ | ⟨hE, hE2⟩
      · have e64 : ¬ ((64 : Int) - (r : Int) ≤ (m : Int)) := by omega
        have hmod : (((A : Int) + (n : Int)) % 64 == 0) = false := by rw [beq_eq_false_iff_ne]; omega
        clear er hal hlim hl63
        replace em := hide em
        replace eC := hide eC
        replace elen := hide elen
        subst hE
        go_wp2
        refine wp_region_alloc_ex 9 9 [] (fun _ => .cells #[] 0 (0, 0)) (by kernel_rfl) (by decide) (by decide) (by kernel_rfl) (by kernel_rfl) (by kernel_rfl) (by kernel_rfl) (by kernel_rfl) (by kernel_rfl) (by kernel_rfl) (by kernel_rfl) (by decide) (by decide) ?_ ?_
        · intro s l u
          omega
        apply Exists.intro
        constructor
        · intro v_ hb
          clear hb; dsimp only [List.take]
          go_big_quiet_step (fail)
          go_big_quiet_step (fail)
          go_big_quiet_step (fail)
          go_big_quiet_step (fail)
          go_big_quiet_step (fail)
          go_big_quiet_step (fail)
          go_big_quiet_step (fail)
          go_big_quiet_step (fail)
          go_big_quiet_step (fail)
          refine wpQuiet_nil ?_
          rfl
        intro w1 g_ hb _ _
        simp only [List.drop, puts, ptrs, List.map, List.foldl, Act.put]

        have hcs1 : ∀ j, j < c.length → w1.cell? ⟨b0, o + j, none⟩ = some (.int .u8 (c.getD j 0)) := fun j hj => (hb.cell (p := ⟨b0, o + j, none⟩) (blk_lt (hcs j hj))).trans (hcs j hj)
        have rH1 := keep hb rH
        have hcopy := hcp w1 rH1 hcs1
        replace f4 := f4.below hb
        replace hw := grown_setRow (hcells ws (prt (wat (a ++ c) q) (r + n)) (A : Int)) (grown_below hw hb)
        have r2 := setRow_heap w1 g _ (hcells ws (prt (wat (a ++ c) q) (r + n)) (A : Int)) _ _ rH1
        replace f4 := f4.belowN (n := 1 + 1) (by omega) (below_setRow (Below.refl _ _) (show 1 + 1 ≤ g by omega) (hcells ws (prt (wat (a ++ c) q) (r + n)) (A : Int)))
        have csz2 := cell_of r2 (hcells_at _ _ _ hw8 hpl)
        have hf2 := row_frozen r2 72
        have r3 := heap_setCell_same _ g 72 _ _ (.int .u64 ((A : Int) + (n : Int))) r2
        rw [hcells_setsz _ _ _ _ hw8 hpl] at r3
        replace hw := grown_setCell (j := 72) (v := .int .u64 ((A : Int) + (n : Int))) hw
        clear hcp hcs hcs1 rH rH1 csz hb sl1 sl2
        generalize w1.setRow g (hcells ws (prt (wat (a ++ c) q) (r + n)) (A : Int)) = w2 at *
        go_wp2
        refine ⟨⟨k + n, ao2, by have := em.out; omega, by have e1 := em.out; have e2 := eC.out; rw [show len - (k + n) = 0 by omega, show cap - (k + n) = C - n by omega], fun h => by have e1 := em.out; omega, by rw [hnx'.out, hls.out (by omega)]; exact r3, hw⟩, ?_⟩
        simp [slen]; omega
      · have h64 : r + n = 64 := by omega
        have e64 : (64 : Int) - (r : Int) ≤ (m : Int) := by omega
        have hmod : (((A : Int) + (n : Int)) % 64 == 0) = true := by rw [beq_iff_eq]; omega
        rw [h64] at hpl
        simp only [h64] at hcp
        have en : (64 : Int) - (r : Int) = (n : Int) := by omega
        replace h64 := hide h64
        replace hE := hide hE
        clear er hal hlim hl63
        replace em := hide em
        replace eC := hide eC
        replace elen := hide elen
        go_wp2
        refine wp_region_alloc_ex 9 9 [] (fun _ => .cells #[] 0 (0, 0)) (by kernel_rfl) (by decide) (by decide) (by kernel_rfl) (by kernel_rfl) (by kernel_rfl) (by kernel_rfl) (by kernel_rfl) (by kernel_rfl) (by kernel_rfl) (by kernel_rfl) (by decide) (by decide) ?_ ?_
        · intro s l u
          omega
        apply Exists.intro
        constructor
        · intro v_ hb
          clear hb; dsimp only [List.take]
          go_big_quiet_step (fail)
          go_big_quiet_step (fail)
          go_big_quiet_step (fail)
          go_big_quiet_step (fail)
          go_big_quiet_step (fail)
          go_big_quiet_step (fail)
          go_big_quiet_step (fail)
          go_big_quiet_step (fail)
          go_big_quiet_step (fail)
          refine wpQuiet_nil ?_
          rfl
        intro w1 g_ hb _ _
        simp only [List.drop, puts, ptrs, List.map, List.foldl, Act.put]

        have hcs1 : ∀ j, j < c.length → w1.cell? ⟨b0, o + j, none⟩ = some (.int .u8 (c.getD j 0)) := fun j hj => (hb.cell (p := ⟨b0, o + j, none⟩) (blk_lt (hcs j hj))).trans (hcs j hj)
        have rH1 := keep hb rH
        have hcopy := hcp w1 rH1 hcs1
        replace f4 := f4.below hb
        replace hw := grown_setRow (hcells ws (prt (wat (a ++ c) q) 64) (A : Int)) (grown_below hw hb)
        have r2 := setRow_heap w1 g _ (hcells ws (prt (wat (a ++ c) q) 64) (A : Int)) _ _ rH1
        replace f4 := f4.belowN (n := 1 + 1) (by omega) (below_setRow (Below.refl _ _) (show 1 + 1 ≤ g by omega) (hcells ws (prt (wat (a ++ c) q) 64) (A : Int)))
        have csz2 := cell_of r2 (hcells_at _ _ _ hw8 hpl)
        have hf2 := row_frozen r2 72
        have r3 := heap_setCell_same _ g 72 _ _ (.int .u64 ((A : Int) + (n : Int))) r2
        rw [hcells_setsz _ _ _ _ hw8 hpl] at r3
        replace hw := grown_setCell (j := 72) (v := .int .u64 ((A : Int) + (n : Int))) hw
        clear hcp hcs hcs1 rH rH1 csz hb sl1 sl2
        generalize w1.setRow g (hcells ws (prt (wat (a ++ c) q) 64) (A : Int)) = w2 at *
        go_wp2
        have f5 := f4.belowN (n := 1 + 1) (by omega) ((Below.refl (1 + 1) w2).setCell (show 1 + 1 ≤ (⟨g, 72, none⟩ : Addr).block from hg1) (.int .u64 ((A : Int) + (n : Int))))
        have cB := a_block ws (prt (wat (a ++ c) q) 64) hw8 hpl hpo.out
        have hbl := blk_len ws (prt (wat (a ++ c) q) 64)
        have hres := hfl.out h64.out
        generalize w2.setCell ⟨g, 72, none⟩ (.int .u64 ((A : Int) + (n : Int))) = w3 at *
        clear hcopy r2 f4 csz2 hf2 hls hfl hov hpo
        generalize prt (wat (a ++ c) q) 64 = NP at *
        generalize blk ws NP = BW at *
        have hpw : (hcells ws NP ((A : Int) + (n : Int))).extract 0 (0 + (irow .u32 ws).size) = irow .u32 ws := by rw [irow_size, hw8]; exact hcells_words _ _ _ hw8
        have hpp : (hcells ws NP ((A : Int) + (n : Int))).extract 8 (8 + (irow .u8 NP).size) = irow .u8 NP := by rw [irow_size, hpl]; exact hcells_part _ _ _ hw8 hpl
        have HR := keepr r3
        replace hres := hide hres
        refine wp_region_tail (C := fun w' => ∃ p : Regrown, w' = grow (redrawn w3 p.d) p.os) 12 _ rfl rfl rfl (by kernel_rfl) (by kernel_rfl) (by kernel_rfl) (by kernel_rfl) ⟨⟨w3.drawn + 1, #[]⟩, by rw [grow_empty]; rfl⟩ ?_
        dsimp only [List.set, idle]
        go_big_quiet_step (fail)
        go_big_quiet_step (fail)
        go_big_quiet_step (fail)
        go_big_quiet_step (fail)
        refine wpQuiet_load_part rfl 99 _ rfl g 0 rfl 106 (hcells ws NP ((A : Int) + (n : Int))) (0, 0) (irow .u32 ws) _ HR.out hpw Tryd.underlying99 rfl (info23 _ hw8) ?_
        simp only [Act.put, List.setIfInBounds_toArray, List.set_cons_succ, List.set_cons_zero]
        go_big_quiet_step (fail)
        go_big_quiet_step (fail)
        go_big_quiet_step (fail)
        refine wpQuiet_load_part rfl 104 _ rfl g 8 rfl 106 (hcells ws NP ((A : Int) + (n : Int))) (0, 0) (irow .u8 NP) _ HR.out hpp Tryd.underlying104 rfl (info24 _ hpl) ?_
        simp only [Act.put, List.setIfInBounds_toArray, List.set_cons_succ, List.set_cons_zero]
        go_big_quiet_step (exact cB.re f5)
        go_big_quiet_step (fail)
        go_big_quiet_step (fail)
        refine wpQuiet_idle rfl rfl rfl ?_
        rintro _ ⟨p, rfl⟩
        have hb := below_regrown w3 p.d p.os
        generalize grow (redrawn w3 p.d) p.os = w4 at *
        replace r3 := keep hb r3
        replace hw := grown_below hw hb
        clear hb

        clear HR hpw hpp cB f5
        go_wp2_with (first | (refine wpList_store_part rfl 99 _ _ rfl g 0 (irow .u32 BW) rfl rfl 106 _ (hcells BW NP ((A : Int) + (n : Int))) r3 (by rw [irow_size, hbl, hcells_size _ _ _ hw8 hpl]; omega) (hcells_setwords _ _ _ _ hw8 hpl hbl) (info23 _ hbl) (irow_one _ _) ?_) | (refine wpList_build_as rfl 104 _ rfl [] rfl (irow .u8 (zr 64)) zbuilt ?_) | (refine wpList_store_part rfl 104 _ _ rfl g 8 (irow .u8 (zr 64)) rfl rfl 106 _ (hcells BW (zr 64) ((A : Int) + (n : Int))) (setRow_heap w4 g _ (hcells BW NP ((A : Int) + (n : Int))) _ _ r3) (by rw [irow_size, zr_len, hcells_size _ _ _ hbl hpl]; omega) (hcells_setpart _ _ _ _ hbl hpl (zr_len 64)) (info24 _ (zr_len 64)) (irow_one _ _) ?_) | fail)
        have r5 := setRow_heap _ g _ (hcells BW (zr 64) ((A : Int) + (n : Int))) _ _ (setRow_heap w4 g _ (hcells BW NP ((A : Int) + (n : Int))) _ _ r3)
        replace hw := grown_setRow (hcells BW (zr 64) ((A : Int) + (n : Int))) (grown_setRow (hcells BW NP ((A : Int) + (n : Int))) hw)
        generalize (w4.setRow g (hcells BW NP ((A : Int) + (n : Int)))).setRow g (hcells BW (zr 64) ((A : Int) + (n : Int))) = w6 at *
        simp only [Act.put]
        refine ⟨?_, ?measure⟩
        apply Exists.intro
        apply Exists.intro
        repeat apply Exists.intro
        refine ⟨?rel, rfl⟩
        case rel =>
          refine ⟨k + n, ao2, by have := em.out; omega, by have e1 := em.out; have e2 := eC.out; rw [show len - (k + n) = m - n by omega, show cap - (k + n) = C - n by omega], fun h => ⟨b0, off, rfl, ?_⟩, by rw [hnx'.out, hres.out]; exact r5, hw⟩
          rw [hao2 (by have e1 := em.out; omega), ← eo.out, Nat.add_assoc]
        case measure =>
          show m - n < m
          omega
    · obtain rfl : k = len := by omega
      have hd : decide ((0 : Int) < ((k - k : Nat) : Int)) = false := by simp
      have et : b.take k = b := List.take_of_length_le (by omega)
      rw [et] at rH
      go_wp2
      go_end0
      exact ⟨rfl, rH, hw⟩

end Go.Proofs.YtgfeacnhdlgpoaaDoor

