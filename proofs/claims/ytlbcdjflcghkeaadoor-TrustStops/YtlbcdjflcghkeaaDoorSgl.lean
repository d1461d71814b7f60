import Derived.Test.YtlbcdjflcghkeaaDoorProg
import Derived.WalkKit
import Derived.WalkSpells
import Derived.WalkLawsBesides
import Derived.Lib.QuietBelow
import Derived.BigQuiet
import Derived.Test.YtlbcdjflcghkeaaDoorKa
import Derived.Test.YtlbcdjflcghkeaaDoorSgk
namespace Go.Proofs.YtlbcdjflcghkeaaDoor
set_option maxRecDepth 100000
open Go Go.RowKit Go.Sort
attribute [local go_sem] setCell_drewN alloc_drewN

theorem cell_of {W : World} {g : Nat} {cs : Array Value} {t : TypeId} (hg : W.heap[g]? = some (.cells cs t (0, 0))) {j : Nat} {v : Value} (h : cs[j]? = some v) : W.cell? ⟨g, j, none⟩ = some v := by
  rw [cell_of_row _ _ _ _ _ _ hg]; exact h
theorem blk_lt {w : World} {b o : Nat} {v : Value} (h : w.cell? ⟨b, o, none⟩ = some v) : b < w.heap.size := by
  rcases Nat.lt_or_ge b w.heap.size with q | q
  · exact q
  · simp [World.cell?, Array.getElem?_eq_none q] at h
theorem grown_below {a b c : World} {g : Nat} (h : a.grownBy b (some g)) (hb : Below b.heap.size b c) : a.grownBy c (some g) :=
  ⟨hb.os.trans h.os, hb.tape.trans h.tape, hb.output.trans h.output, Nat.le_trans h.size hb.size, fun k hk hn => (hb.block k (Nat.lt_of_lt_of_le hk h.size)).trans (h.block k hk hn)⟩
theorem Kon.grown {a b : World} {g : Nat} (h : Kon a) (hg : a.grownBy b (some g)) (hne : g ≠ 2) : Kon b := by
  obtain ⟨t, fr, h⟩ := h
  exact ⟨t, fr, (hg.block 2 (Array.getElem?_eq_some_iff.1 h).1 (by intro e; injection e with e; exact hne e.symm)).trans h⟩
theorem Sta.grown {a b : World} {g : Nat} (h : Sta a) (hg : a.grownBy b (some g)) (hne : g ≠ 1) : Sta b := by
  obtain ⟨t, fr, h⟩ := h
  exact ⟨t, fr, (hg.block 1 (Array.getElem?_eq_some_iff.1 h).1 (by intro e; injection e with e; exact hne e.symm)).trans h⟩
theorem grown_setRow {a b : World} {g : Nat} (cs : Array Value) (h : a.grownBy b (some g)) : a.grownBy (b.setRow g cs) (some g) := by
  refine ⟨h.os, h.tape, h.output, ?_, fun k hk hn => ?_⟩
  · have e : (b.setRow g cs).heap.size = b.heap.size := by simp
    rw [e]; exact h.size
  · rw [setRow_other b g k cs (fun e => hn (by rw [e]))]
    exact h.block k hk hn
theorem slice_part (g r : Nat) (hr : r < 64) (W : World) : (Instr.sliceAt 113 (.pointer (some ⟨g, 8, none⟩)) (some (.int .u64 (r : Int))) none none).run Tryd.prog W = .ok (.slice (some ⟨g, 8 + r, none⟩) (64 - r) (64 - r)) W := by
  have ht : Tryd.prog.underlying 113 = some (.array (Tryd.prog.arrayLen 113) (Tryd.prog.elem 113)) := by kernel_rfl
  have hn : Tryd.prog.arrayLen 113 = 64 := by kernel_rfl
  have hs : (sizeOf (Tryd.prog.elem 113)).run Tryd.prog W = .ok 1 W := by kernel_rfl
  rw [run_sliceAt_array_l W _ _ ht .u64 _ (by omega) (by rw [hn]; omega), hs]
  show Result.ok (slicedAt _ _ _ _ 1) W = _
  rw [Int.toNat_natCast, hn, slicedAt, if_neg (by omega), addr_add]
  simp
theorem elem8 : Tryd.prog.underlying 67 = some (.slice (Tryd.prog.elem 67)) := by kernel_rfl
theorem size8 (W : World) : (sizeOf (Tryd.prog.elem 67)).run Tryd.prog W = .ok 1 W := by kernel_rfl
theorem slice_first (ad : Addr) (m c n : Nat) (h : n ≤ c) (W : World) : (Instr.sliceAt 67 (.slice (some ad) m c) none (some (.int .i64 (n : Int))) (some (.int .i64 (n : Int)))).run Tryd.prog W = .ok (.slice (some (if n = 0 then ad else ad.add 0)) n n) W := by
  rw [run_sliceAt_slice _ _ _ _ _ _ elem8, run_slice_hm W 67 (some ad) m c elem8 .i64 .i64 _ _ (by omega) (Int.le_refl _) (by omega), size8]
  show Result.ok (sliced _ _ _ _ 1) W = _
  rw [Int.toNat_natCast, sliced, Nat.zero_mul]
  by_cases e : n = 0
  · rw [if_pos e, if_pos e]; rfl
  · rw [if_neg e, if_neg e]; rfl
theorem slice_rest (b0 o m c n : Nat) (h : n ≤ m) (hc : m ≤ c) : ∃ ao2 : Option Addr, (n < m → ao2 = some ⟨b0, o + n, none⟩) ∧ ∀ W, (Instr.sliceAt 67 (.slice (some ⟨b0, o, none⟩) m c) (some (.int .i64 (n : Int))) none none).run Tryd.prog W = .ok (.slice ao2 (m - n) (c - n)) W := by
  refine ⟨if c = n then some ⟨b0, o, none⟩ else some ⟨b0, o + n, none⟩, fun hn => if_neg (by omega), fun W => ?_⟩
  rw [run_sliceAt_slice _ _ _ _ _ _ elem8, run_slice_l W 67 (some ⟨b0, o, none⟩) m c elem8 .i64 _ (by omega) (by omega), size8]
  show Result.ok (sliced _ _ _ _ 1) W = _
  rw [Int.toNat_natCast, sliced, Nat.mul_one, Option.map_some, addr_add]
theorem zbuilt : Tryd.prog.built 113 [] = some (irow .u8 (zr 64)) := by kernel_rfl
theorem copy_part {W : World} {g r b0 o n : Nat} {ws ps c : List Int} {sz : Int} (hg : W.heap[g]? = some (.cells (hcells ws ps sz) 115 (0, 0))) (h1 : ws.length = 8) (h2 : ps.length = 64) (hc : ∀ j, j < c.length → W.cell? ⟨b0, o + j, none⟩ = some (.int .u8 (c.getD j 0))) (hn : c.length = n) (hr : r + n ≤ 64) :
    (Builtin.copy_ #[67, 67] 3 #[.slice (some ⟨g, 8 + r, none⟩) (64 - r) (64 - r), .slice (some ⟨b0, o, none⟩) n n]).run Tryd.prog W = .ok (goInt n) (W.setRow g (hcells ws (ps.take r ++ c ++ ps.drop (r + n)) sz)) := by
  have hsrc : ∀ j u, (c.map (Value.int .u8))[j]? = some u → W.cell? ((⟨b0, o, none⟩ : Addr).add j) = some u := by
    intro j u hu
    have hj : j < c.length := by have := (List.getElem?_eq_some_iff.1 hu).1; simpa using this
    have : u = .int .u8 (c.getD j 0) := by
      simp only [List.getElem?_map, List.getElem?_eq_getElem hj, Option.map_some, Option.some.injEq] at hu
      rw [← hu, List.getD_eq_getElem?_getD, List.getElem?_eq_getElem hj]; rfl
    rw [this, addr_add]
    exact hc j hj
  have hrun := run_copy_row (P := Tryd.prog) W 67 67 3 5 g (8 + r) (64 - r) (64 - r) ⟨b0, o, none⟩ n n (hcells ws ps sz) 115 (c.map (Value.int .u8)) Tryd.underlying67 (by kernel_rfl) hg (by rw [List.length_map, hn]; exact (Nat.min_eq_left (by omega)).symm) hsrc (by rw [hcells_size _ _ _ h1 h2, List.length_map]; omega) (ints_one .u8 c)
  rw [hcells_copy ws ps c sz r h1 h2 (by omega), List.length_map, hn] at hrun
  exact hrun
set_option maxRecDepth 100000 in
set_option maxHeartbeats 8000000 in
theorem a_write (bs b : List Int) (g : Nat) (w : World) (v : Value) (hH : w.heap[g]? = some (.cells (hst bs) 115 (0, 0))) (hB : Bys w v b) (hne : ∀ a l c, v = .slice (some a) l c → 0 < l → a.block ≠ g) (hcap : ∀ a l c, v = .slice a l c → l ≤ c) (hg1 : 2 < g) (hK : Kon w) (hzb : ∀ z ∈ bs, 0 ≤ z ∧ z < 256) (hlim : bs.length + b.length ≤ 4611686018427387904) :
    Calls Tryd.prog 57 #[.pointer (some ⟨g, 0, none⟩), v] w fun e w' => e = .returned (.tuple #[]) ∧ w'.heap[g]? = some (.cells (hst (bs ++ b)) 115 (0, 0)) ∧ w.grownBy w' (some g) := by
  obtain ⟨ao, cap, rfl, hl63, hc, hz⟩ := hB
  replace hcap := hcap _ _ _ rfl
  generalize elen : b.length = len at *
  have hgl := lt_of_row hH
  go_enter Tryd.func57, Tryd.ntmps57
  go_wp2_with (fail)
  go_loopw [1] (fun x wr => ∃ (k : Nat) (ao' : Option Addr), k ≤ len ∧ x = .slice ao' (len - k) (cap - k) ∧ (k < len → ∃ b0 off, ao = some ⟨b0, off, none⟩ ∧ ao' = some ⟨b0, off + k, none⟩) ∧ wr.heap[g]? = some (.cells (hst (bs ++ b.take k)) 115 (0, 0)) ∧ w.grownBy wr (some g)) (fun x _ => slen x)
  case atStart =>
    refine ⟨0, ao, by omega, rfl, fun h => ?_, by simpa using hH, World.grownBy.refl _ _⟩
    obtain ⟨b0, off, e, _⟩ := hc 0 h
    exact ⟨b0, off, e, e⟩
  case round =>
    obtain ⟨k, ao', hk, rfl, hadr, rH, hw⟩ := hrel
    by_cases hlt : k < len
    · obtain ⟨b0, off, rfl, rfl⟩ := hadr hlt
      have hb0 := hne _ _ _ rfl (by omega)
      replace hb0 : b0 ≠ g := hb0
      have hcell : ∀ j, j < len → wr.cell? ⟨b0, off + j, none⟩ = some (.int .u8 (b.getD j 0)) := fun j hj => by
        obtain ⟨b1, o1, e, hb1, hb2⟩ := hc j hj
        cases e
        exact hw.cell hb2 (by intro e; injection e with e; exact hb0 e)
      have f4 : Kon wr := by
        obtain ⟨t, fr, h⟩ := hK
        exact ⟨t, fr, (hw.block 2 (Array.getElem?_eq_some_iff.1 h).1 (by intro e; injection e with e; omega)).trans h⟩
      have hal : (bs ++ b.take k).length = bs.length + k := by rw [List.length_append, List.length_take]; omega
      have hab : ∀ z ∈ bs ++ b.take k, 0 ≤ z ∧ z < 256 := both_bd hzb (fun z h => hz z (List.mem_of_mem_take h))
      have hnx : ∀ n, bs ++ b.take (k + n) = bs ++ b.take k ++ (b.drop k).take n := fun n => by rw [List.append_assoc, ← List.take_add]
      have hgl2 := lt_of_row rH
      clear hadr hne hc hH hK hzb
      generalize bs ++ b.take k = a at *
      have hw8 := hwords_len a
      have hp64 := hpart_len a
      have hless := hst_less a
      have hfull := hst_full a
      have hwat := wat_bd (bs := a)
      have hover := fun c => part_over a c (a.length / 64) (a.length % 64) (by omega)
      rw [show prt (wat a (a.length / 64)) (a.length % 64) = hpart a from rfl] at hover
      rw [hst] at rH
      have csz := cell_of rH (hcells_at _ _ _ hw8 hp64)
      generalize eA : a.length = A at *
      obtain ⟨r, er⟩ : ∃ r : Nat, r = A % 64 := ⟨_, rfl⟩
      have hr : r < 64 := by omega
      have eri : (A : Int) % 64 = (r : Int) := by omega
      rw [← er] at hover hless hfull
      generalize A / 64 = q at *
      generalize hwords a = ws at *
      generalize hpart a = ps at *
      obtain ⟨m, em⟩ : ∃ m : Nat, m = len - k := ⟨_, rfl⟩
      rw [← em]
      have hm : 0 < m := by omega
      obtain ⟨C, eC⟩ : ∃ C : Nat, C = cap - k := ⟨_, rfl⟩
      rw [← eC]
      have hmC : m ≤ C := by omega
      have hAl : A ≤ 4611686018427387904 := by omega
      have hAm : A + m ≤ 4611686018427387904 := by omega
      clear hwat
      -- how many bytes the block takes up
      obtain ⟨n, hn1, hnm, hn64, hdec⟩ : ∃ n : Nat, 0 < n ∧ n ≤ m ∧ r + n ≤ 64 ∧ ((n = m ∧ m < 64 - r) ∨ (n = 64 - r ∧ 64 - r ≤ m)) := by
        by_cases h : m < 64 - r
        · exact ⟨m, hm, Nat.le_refl _, by omega, .inl ⟨rfl, h⟩⟩
        · exact ⟨64 - r, by omega, by omega, by omega, .inr ⟨rfl, by omega⟩⟩
      have hcl : ((b.drop k).take n).length = n := by rw [List.length_take, List.length_drop]; omega
      have hcs : ∀ j, j < ((b.drop k).take n).length → wr.cell? ⟨b0, off + k + j, none⟩ = some (.int .u8 (((b.drop k).take n).getD j 0)) := fun j hj => by
        rw [hcl] at hj
        have := hcell (k + j) (by omega)
        rw [← Nat.add_assoc] at this
        rw [this, List.getD_eq_getElem?_getD, List.getD_eq_getElem?_getD, List.getElem?_take_of_lt hj, List.getElem?_drop]
      have hnx' := hnx n
      have hov := hover ((b.drop k).take n) (by rw [hcl]; exact hn64)
      have hls := hless ((b.drop k).take n)
      have hfl := hfull ((b.drop k).take n)
      have hcb : ∀ z ∈ a ++ (b.drop k).take n, 0 ≤ z ∧ z < 256 := both_bd hab (fun z h => hz z (List.mem_of_mem_drop (List.mem_of_mem_take h)))
      have hpo := prt_bd (wat_bd hcb q) 64
      rw [hcl] at hov hls hfl
      clear hover hless hfull hnx hcell hcb hab hz
      generalize (b.drop k).take n = c at *
      generalize eo : off + k = o at *
      replace eo := hide eo
      have sl1 := slice_part g r hr
      have sl2 := slice_first ⟨b0, o, none⟩ m C n (by omega)
      rw [if_neg (show ¬ n = 0 by omega), addr_add, Nat.add_zero] at sl2
      obtain ⟨ao2, hao2, sl3⟩ := slice_rest b0 o m C n hnm hmC
      have hpl : (ps.take r ++ c ++ ps.drop (r + n)).length = 64 := by rw [hov, prt_len]
      have hcp := fun (W : World) (rW : W.heap[g]? = some (.cells (hcells ws ps (A : Int)) 115 (0, 0))) hcW => copy_part (W := W) (r := r) (b0 := b0) (o := o) (c := c) rW hw8 hp64 hcW hcl hn64
      rw [hov] at hpl
      simp only [hov] at hcp
      replace hov := hide hov
      replace hnx' := hide hnx'
      replace hls := hide hls
      replace hfl := hide hfl
      replace hpo := hide hpo
      have hAn : (A : Int) + (n : Int) < 18446744073709551616 := by omega
      rcases hdec with ⟨hE, hE2⟩ | ⟨hE, hE2⟩
      · have e64 : ¬ ((64 : Int) - (r : Int) ≤ (m : Int)) := by omega
        have hmod : (((A : Int) + (n : Int)) % 64 == 0) = false := by rw [beq_eq_false_iff_ne]; omega
        clear er hal hlim hl63
        replace em := hide em
        replace eC := hide eC
        replace elen := hide elen
        subst hE
        go_wp2
        refine wp_region_alloc_ex 9 9 [] (fun _ => .cells #[] 0 (0, 0)) (by kernel_rfl) (by decide) (by decide) (by kernel_rfl) (by kernel_rfl) (by kernel_rfl) (by kernel_rfl) (by kernel_rfl) (by kernel_rfl) (by kernel_rfl) (by kernel_rfl) (by decide) (by decide) ?_ ?_
        · intro s l u
          omega
        apply Exists.intro
        constructor
        · intro v_ hb
          clear hb; dsimp only [List.take]
          go_big_quiet_step (fail)
          go_big_quiet_step (fail)
          go_big_quiet_step (fail)
          go_big_quiet_step (fail)
          go_big_quiet_step (fail)
          go_big_quiet_step (fail)
          go_big_quiet_step (fail)
          go_big_quiet_step (fail)
          go_big_quiet_step (fail)
          refine wpQuiet_nil ?_
          rfl
        intro w1 g_ hb _ _
        simp only [List.drop, puts, ptrs, List.map, List.foldl, Act.put]

        have hcs1 : ∀ j, j < c.length → w1.cell? ⟨b0, o + j, none⟩ = some (.int .u8 (c.getD j 0)) := fun j hj => (hb.cell (p := ⟨b0, o + j, none⟩) (blk_lt (hcs j hj))).trans (hcs j hj)
        have rH1 := keep hb rH
        have hcopy := hcp w1 rH1 hcs1
        replace f4 := f4.below hb
        replace hw := grown_setRow (hcells ws (prt (wat (a ++ c) q) (r + n)) (A : Int)) (grown_below hw hb)
        have r2 := setRow_heap w1 g _ (hcells ws (prt (wat (a ++ c) q) (r + n)) (A : Int)) _ _ rH1
        replace f4 := f4.belowN (n := 3) (by omega) (below_setRow (Below.refl _ _) (show 3 ≤ g by omega) (hcells ws (prt (wat (a ++ c) q) (r + n)) (A : Int)))
        have csz2 := cell_of r2 (hcells_at _ _ _ hw8 hpl)
        have hf2 := row_frozen r2 72
        have r3 := heap_setCell_same _ g 72 _ _ (.int .u64 ((A : Int) + (n : Int))) r2
        rw [hcells_setsz _ _ _ _ hw8 hpl] at r3
        replace hw := grown_setCell (j := 72) (v := .int .u64 ((A : Int) + (n : Int))) hw
        clear hcp hcs hcs1 rH rH1 csz hb sl1 sl2
        generalize w1.setRow g (hcells ws (prt (wat (a ++ c) q) (r + n)) (A : Int)) = w2 at *
        go_wp2
        refine ⟨⟨k + n, ao2, by have := em.out; omega, by have e1 := em.out; have e2 := eC.out; rw [show len - (k + n) = 0 by omega, show cap - (k + n) = C - n by omega], fun h => by have e1 := em.out; omega, by rw [hnx'.out, hls.out (by omega)]; exact r3, hw⟩, ?_⟩
        simp [slen]; omega
      · have h64 : r + n = 64 := by omega
        have e64 : (64 : Int) - (r : Int) ≤ (m : Int) := by omega
        have hmod : (((A : Int) + (n : Int)) % 64 == 0) = true := by rw [beq_iff_eq]; omega
        rw [h64] at hpl
        simp only [h64] at hcp
        have en : (64 : Int) - (r : Int) = (n : Int) := by omega
        replace h64 := hide h64
        replace hE := hide hE
        clear er hal hlim hl63
        replace em := hide em
        replace eC := hide eC
        replace elen := hide elen
        go_wp2
        refine wp_region_alloc_ex 9 9 [] (fun _ => .cells #[] 0 (0, 0)) (by kernel_rfl) (by decide) (by decide) (by kernel_rfl) (by kernel_rfl) (by kernel_rfl) (by kernel_rfl) (by kernel_rfl) (by kernel_rfl) (by kernel_rfl) (by kernel_rfl) (by decide) (by decide) ?_ ?_
        · intro s l u
          omega
        apply Exists.intro
        constructor
        · intro v_ hb
          clear hb; dsimp only [List.take]
          go_big_quiet_step (fail)
          go_big_quiet_step (fail)
          go_big_quiet_step (fail)
          go_big_quiet_step (fail)
          go_big_quiet_step (fail)
          go_big_quiet_step (fail)
          go_big_quiet_step (fail)
          go_big_quiet_step (fail)
          go_big_quiet_step (fail)
          refine wpQuiet_nil ?_
          rfl
        intro w1 g_ hb _ _
        simp only [List.drop, puts, ptrs, List.map, List.foldl, Act.put]

        have hcs1 : ∀ j, j < c.length → w1.cell? ⟨b0, o + j, none⟩ = some (.int .u8 (c.getD j 0)) := fun j hj => (hb.cell (p := ⟨b0, o + j, none⟩) (blk_lt (hcs j hj))).trans (hcs j hj)
        have rH1 := keep hb rH
        have hcopy := hcp w1 rH1 hcs1
        replace f4 := f4.below hb
        replace hw := grown_setRow (hcells ws (prt (wat (a ++ c) q) 64) (A : Int)) (grown_below hw hb)
        have r2 := setRow_heap w1 g _ (hcells ws (prt (wat (a ++ c) q) 64) (A : Int)) _ _ rH1
        replace f4 := f4.belowN (n := 3) (by omega) (below_setRow (Below.refl _ _) (show 3 ≤ g by omega) (hcells ws (prt (wat (a ++ c) q) 64) (A : Int)))
        have csz2 := cell_of r2 (hcells_at _ _ _ hw8 hpl)
        have hf2 := row_frozen r2 72
        have r3 := heap_setCell_same _ g 72 _ _ (.int .u64 ((A : Int) + (n : Int))) r2
        rw [hcells_setsz _ _ _ _ hw8 hpl] at r3
        replace hw := grown_setCell (j := 72) (v := .int .u64 ((A : Int) + (n : Int))) hw
        clear hcp hcs hcs1 rH rH1 csz hb sl1 sl2
        generalize w1.setRow g (hcells ws (prt (wat (a ++ c) q) 64) (A : Int)) = w2 at *
        go_wp2
        have f5 := f4.belowN (n := 3) (by omega) ((Below.refl 3 w2).setCell (show 3 ≤ (⟨g, 72, none⟩ : Addr).block from hg1) (.int .u64 ((A : Int) + (n : Int))))
        have cB := a_block ws (prt (wat (a ++ c) q) 64) hw8 hpl hpo.out
        have hbl := blk_len ws (prt (wat (a ++ c) q) 64)
        have hres := hfl.out h64.out
        generalize w2.setCell ⟨g, 72, none⟩ (.int .u64 ((A : Int) + (n : Int))) = w3 at *
        clear hcopy r2 f4 csz2 hf2 hls hfl hov hpo
        generalize prt (wat (a ++ c) q) 64 = NP at *
        generalize blk ws NP = BW at *
        have hpw : (hcells ws NP ((A : Int) + (n : Int))).extract 0 (0 + (irow .u32 ws).size) = irow .u32 ws := by rw [irow_size, hw8]; exact hcells_words _ _ _ hw8
        have hpp : (hcells ws NP ((A : Int) + (n : Int))).extract 8 (8 + (irow .u8 NP).size) = irow .u8 NP := by rw [irow_size, hpl]; exact hcells_part _ _ _ hw8 hpl
        have HR := keepr r3
        replace hres := hide hres
        refine wp_region_tail (C := fun w' => ∃ p : Regrown, w' = grow (redrawn w3 p.d) p.os) 12 _ rfl rfl rfl (by kernel_rfl) (by kernel_rfl) (by kernel_rfl) (by kernel_rfl) ⟨⟨w3.drawn + 1, #[]⟩, by rw [grow_empty]; rfl⟩ ?_
        dsimp only [List.set, idle]
        go_big_quiet_step (fail)
        go_big_quiet_step (fail)
        go_big_quiet_step (fail)
        go_big_quiet_step (fail)
        refine wpQuiet_load_part rfl 112 _ rfl g 0 rfl 115 (hcells ws NP ((A : Int) + (n : Int))) (0, 0) (irow .u32 ws) _ HR.out hpw Tryd.underlying112 rfl (info23 _ hw8) ?_
        simp only [Act.put, List.setIfInBounds_toArray, List.set_cons_succ, List.set_cons_zero]
        go_big_quiet_step (fail)
        go_big_quiet_step (fail)
        go_big_quiet_step (fail)
        refine wpQuiet_load_part rfl 113 _ rfl g 8 rfl 115 (hcells ws NP ((A : Int) + (n : Int))) (0, 0) (irow .u8 NP) _ HR.out hpp Tryd.underlying113 rfl (info24 _ hpl) ?_
        simp only [Act.put, List.setIfInBounds_toArray, List.set_cons_succ, List.set_cons_zero]
        go_big_quiet_step (exact cB.re f5)
        go_big_quiet_step (fail)
        go_big_quiet_step (fail)
        refine wpQuiet_idle rfl rfl rfl ?_
        rintro _ ⟨p, rfl⟩
        have hb := below_regrown w3 p.d p.os
        generalize grow (redrawn w3 p.d) p.os = w4 at *
        replace r3 := keep hb r3
        replace hw := grown_below hw hb
        clear hb

        clear HR hpw hpp cB f5
        go_wp2_with (first | (refine wpList_store_part rfl 112 _ _ rfl g 0 (irow .u32 BW) rfl rfl 115 _ (hcells BW NP ((A : Int) + (n : Int))) r3 (by rw [irow_size, hbl, hcells_size _ _ _ hw8 hpl]; omega) (hcells_setwords _ _ _ _ hw8 hpl hbl) (info23 _ hbl) (irow_one _ _) ?_) | (refine wpList_build_as rfl 113 _ rfl [] rfl (irow .u8 (zr 64)) zbuilt ?_) | (refine wpList_store_part rfl 113 _ _ rfl g 8 (irow .u8 (zr 64)) rfl rfl 115 _ (hcells BW (zr 64) ((A : Int) + (n : Int))) (setRow_heap w4 g _ (hcells BW NP ((A : Int) + (n : Int))) _ _ r3) (by rw [irow_size, zr_len, hcells_size _ _ _ hbl hpl]; omega) (hcells_setpart _ _ _ _ hbl hpl (zr_len 64)) (info24 _ (zr_len 64)) (irow_one _ _) ?_) | fail)
        have r5 := setRow_heap _ g _ (hcells BW (zr 64) ((A : Int) + (n : Int))) _ _ (setRow_heap w4 g _ (hcells BW NP ((A : Int) + (n : Int))) _ _ r3)
        replace hw := grown_setRow (hcells BW (zr 64) ((A : Int) + (n : Int))) (grown_setRow (hcells BW NP ((A : Int) + (n : Int))) hw)
        generalize (w4.setRow g (hcells BW NP ((A : Int) + (n : Int)))).setRow g (hcells BW (zr 64) ((A : Int) + (n : Int))) = w6 at *
        simp only [Act.put]
        refine ⟨?_, ?measure⟩
        apply Exists.intro
        apply Exists.intro
        repeat apply Exists.intro
        refine ⟨?rel, rfl⟩
        case rel =>
          refine ⟨k + n, ao2, by have := em.out; omega, by have e1 := em.out; have e2 := eC.out; rw [show len - (k + n) = m - n by omega, show cap - (k + n) = C - n by omega], fun h => ⟨b0, off, rfl, ?_⟩, by rw [hnx'.out, hres.out]; exact r5, hw⟩
          rw [hao2 (by have e1 := em.out; omega), ← eo.out, Nat.add_assoc]
        case measure =>
          show m - n < m
          omega
    · obtain rfl : k = len := by omega
      have hd : decide ((0 : Int) < ((k - k : Nat) : Int)) = false := by simp
      have et : b.take k = b := List.take_of_length_le (by omega)
      rw [et] at rH
      go_wp2
      go_end0
      exact ⟨rfl, rH, hw⟩

end Go.Proofs.YtlbcdjflcghkeaaDoor


namespace Go.Proofs.YtlbcdjflcghkeaaDoor
set_option maxRecDepth 100000
open Go Go.RowKit Go.Sort
attribute [local go_sem] setCell_drewN alloc_drewN

theorem zH (W : World) : (Instr.alloc 115 true (.tuple #[])).run Tryd.prog W = .ok (.pointer (some ⟨W.heap.size, 0, none⟩)) (W.alloc (.cells (hcells (zr 8) (zr 64) 0) 115)) := by kernel_rfl
theorem bH (cs : Array Value) (W : World) : (Instr.box 115 (.agg cs)).run Tryd.prog W = .ok (.pointer (some ⟨W.heap.size, 0, none⟩)) (W.alloc (.cells cs 115)) := by kernel_rfl
theorem nbuilt : Tryd.prog.built 115 [(0, .agg (irow .u32 sl))] = some (hst []) := by kernel_rfl
theorem infoH (ws ps : List Int) (sz : Int) (h1 : ws.length = 8) (h2 : ps.length = 64) : (Tryd.prog.info? 115).map (·.size) = some (hcells ws ps sz).size := by
  rw [hcells_size _ _ _ h1 h2]; kernel_rfl
theorem infoS (bs : List Int) : (Tryd.prog.info? 115).map (·.size) = some (hst bs).size := infoH _ _ _ (hwords_len bs) (hpart_len bs)
theorem fitS (bs : List Int) : (hcells (zr 8) (zr 64) 0).size = (hst bs).size := by
  rw [hcells_size _ _ _ (zr_len 8) (zr_len 64), hst, hcells_size _ _ _ (hwords_len bs) (hpart_len bs)]
theorem fitSS (a b : List Int) : (hst a).size = (hst b).size := (fitS a).symm.trans (fitS b)
set_option maxRecDepth 100000 in
set_option maxHeartbeats 2000000 in
theorem a_new (w : World) (hS : Sta w) : Calls Tryd.prog 56 #[] w fun e w' => e = .returned (.pointer (some ⟨w.heap.size, 0, none⟩)) ∧ w'.heap[w.heap.size]? = some (.cells (hst []) 115 (0, 0)) ∧ Below w.heap.size w w' := by
  obtain ⟨t, fr, h⟩ := hS
  have R0 := hp1_0 w (.cells (hst []) 115)
  have HW : Below w.heap.size w (w.alloc (.cells (hst []) 115)) := (Below.refl _ _).alloc (Nat.le_refl _) _
  go_enter Tryd.func56, Tryd.ntmps56
  go_wp2_with (first | (refine wpList_load_want rfl 112 _ rfl 1 rfl t (irow .u32 sl) fr _ h Tryd.underlying112 rfl (info23 sl rfl) ?_) | (refine wpList_build_as rfl 115 _ rfl [(0, .agg (irow .u32 sl))] rfl (hst []) nbuilt ?_) | (refine wpList_box rfl 115 _ rfl _ rfl (bH _) ?_) | fail)
  go_ret
  exact ⟨rfl, R0, HW⟩
theorem sumW_eq (bs : List Int) : hwords (bs ++ padL bs.length) = sumW bs := rfl
set_option maxRecDepth 100000 in
set_option maxHeartbeats 4000000 in
theorem a_hsum (bs : List Int) (g : Nat) (w : World) (hK : Kon w) (rH : w.heap[g]? = some (.cells (hst bs) 115 (0, 0))) (hz : ∀ z ∈ bs, 0 ≤ z ∧ z < 256) (hlim : bs.length ≤ 4611686018427387000) : Calls Tryd.prog 58 #[.pointer (some ⟨g, 0, none⟩)] w fun e w' => e = .returned (.agg (irow .u8 (sumL bs))) ∧ Below w.heap.size w w' := by
  have lg := lt_of_row rH
  have hpb := plen_bd bs.length
  have hpl := padL_len bs.length
  have r0 := hp2_0 w (.cells (irow .u8 (zr 32)) 23) (.cells (hst bs) 115)
  have r1 := hp2_1 w (.cells (irow .u8 (zr 32)) 23) (.cells (hst bs) 115)
  have hw : Below w.heap.size w ((w.alloc (.cells (irow .u8 (zr 32)) 23)).alloc (.cells (hst bs) 115)) := ((Below.refl _ _).alloc (Nat.le_refl _) _).alloc (by simp) _
  have rH0 : (w.alloc (.cells (irow .u8 (zr 32)) 23)).heap[g]? = some (.cells (hst bs) 115 (0, 0)) := keep ((Below.refl _ _).alloc (Nat.le_refl _) _) rH
  have csz := cell_of (keep hw rH) (hcells_at _ _ _ (hwords_len bs) (hpart_len bs))
  have f4 := hK.below hw
  have hk1 := hK.sz
  have cP := a_pad bs.length (by omega)
  go_enter Tryd.func58, Tryd.ntmps58
  go_wp2_with (first | (refine wpList_alloc rfl 23 rfl (irow .u8 (zr 32)) zkey ?_) | (refine wpList_load_want rfl 115 _ rfl g rfl 115 (hst bs) (0, 0) _ rH0 Tryd.underlying115 rfl (infoS _) ?_) | (refine wpList_alloc rfl 115 rfl (hcells (zr 8) (zr 64) 0) zH ?_) | (refine wpList_store_row rfl 115 _ _ rfl ((w.alloc (.cells (irow .u8 (zr 32)) 23)).heap.size) (hst bs) rfl rfl 115 _ (hp1_0 (w.alloc (.cells (irow .u8 (zr 32)) 23)) _) (infoS _) (fitS _) (hcells_one _ _ _) ?_; rw [setRow_alloc_new _ _ _ _ _ _ rfl]) | fail)
  try simp only [size_alloc1, Act.put, List.setIfInBounds_toArray, List.set_cons_succ, List.set_cons_zero]
  have ysz : ((w.alloc (.cells (irow .u8 (zr 32)) 23)).alloc (.cells (hst bs) 115)).heap.size = w.heap.size + 1 + 1 := by rw [size_alloc1, size_alloc1]
  generalize ((w.alloc (.cells (irow .u8 (zr 32)) 23)).alloc (.cells (hst bs) 115)) = w0 at *
  refine (cP w0).mono ?_
  rintro e_ w1 ⟨vp, gp, rfl, rfl, hgp, rp, hb⟩
  replace r0 := keep hb r0
  replace r1 := keep hb r1
  replace f4 := f4.below hb
  replace hw := Below.after hw hb
  clear hb csz rH0 cP
  have hBp : Bys w1 (.slice (some ⟨gp, 0, none⟩) (plen bs.length) (plen bs.length)) (padL bs.length) := by rw [← hpl]; exact Bys.of_row rp (by omega) (padL_bd _) _
  have cW := a_write bs (padL bs.length) (w.heap.size + 1) w1 _ r1 hBp (fun a l c h _ => by cases h; show gp ≠ w.heap.size + 1; omega) (fun a l c h => by cases h; exact Nat.le_refl _) (by omega) f4 hz (by rw [hpl]; omega)
  go_wp2_with (fail)
  refine cW.mono ?_
  rintro e_ w2 ⟨rfl, r2, hgr⟩
  have l0 := lt_of_row r0
  replace r0 : w2.heap[w.heap.size]? = _ := (hgr.block _ l0 (by intro e; injection e with e; omega)).trans r0
  replace hw := hw.grown hgr hw.size (fun k h => by injection h with h; omega)
  clear hgr cW r1 hBp rp f4
  have hW8 := sumW_len bs
  have hWb := sumW_bd bs
  have hSl := sumL_len bs
  have cT := a_told (sumW bs) hW8 hWb
  rw [show byts (sumW bs) = sumL bs from rfl] at cT
  rw [hst, sumW_eq] at r2
  have hq64 := hpart_len (bs ++ padL bs.length)
  generalize hpart (bs ++ padL bs.length) = PS at *
  generalize (((bs ++ padL bs.length).length : Nat) : Int) = SZ at *
  generalize sumW bs = SW at *
  have hpw : (hcells SW PS SZ).extract 0 (0 + (irow .u32 SW).size) = irow .u32 SW := by rw [irow_size, hW8]; exact hcells_words _ _ _ hW8
  clear hWb hpl hpb
  go_wp2_with (first | (refine wpList_load_part rfl 112 _ rfl (w.heap.size + 1) 0 rfl 115 (hcells SW PS SZ) (0, 0) (irow .u32 SW) _ r2 hpw Tryd.underlying112 rfl (info23 _ hW8) ?_) | fail)
  refine (cT.at _).mono ?_
  rintro e_ w3 ⟨rfl, hb⟩
  replace r0 := keep hb r0
  replace hw := Below.after hw hb
  clear hb cT
  go_wp2_with (first | (refine wpList_store_row rfl 23 _ _ rfl (w.heap.size) (irow .u8 (sumL bs)) rfl rfl 23 _ r0 (infok8 _ hSl) (fit32 _ _ (zr_len 32) hSl) (irow_one _ _) ?_) | fail)
  replace r0 := setRow_heap w3 (w.heap.size) _ (irow .u8 (sumL bs)) _ _ r0
  replace hw := below_setRow hw (Nat.le_refl _) (irow .u8 (sumL bs))
  generalize w3.setRow (w.heap.size) (irow .u8 (sumL bs)) = w9 at *
  exact bodyPost_ret (v := .agg (irow .u8 (sumL bs))) (results_cell_row Tryd.results58 _ _ (w.heap.size) _ _ _ _ rfl r0 Tryd.underlying23 rfl (infok8 _ hSl)) rfl ⟨rfl, hw⟩
set_option maxRecDepth 100000 in
set_option maxHeartbeats 4000000 in
theorem a_sum (bs : List Int) (w : World) (v : Value) (hS : Sta w) (hK : Kon w) (hB : Bys w v bs) (hcap : ∀ a l c, v = .slice a l c → l ≤ c) (hlim : bs.length ≤ 4611686018427387000) : Calls Tryd.prog 43 #[v] w fun e w' => e = .returned (.agg (irow .u8 (sumL bs))) ∧ Below w.heap.size w w' := by
  have r0 := hp1_0 w (.cells (irow .u8 (zr 32)) 23)
  have hw : Below w.heap.size w (w.alloc (.cells (irow .u8 (zr 32)) 23)) := (Below.refl _ _).alloc (Nat.le_refl _) _
  have f0 := hS.below hw
  have f4 := hK.below hw
  have hk1 := hK.sz
  have hB0 := hB.keep hw
  obtain ⟨ao, cap, rfl, _, hc, hz⟩ := hB
  replace hcap := hcap _ _ _ rfl
  have hSl := sumL_len bs
  have hne : ∀ a, ao = some a → 0 < bs.length → a.block < w.heap.size := by
    rintro a rfl hl
    obtain ⟨b0, off, e, hb, _⟩ := hc 0 hl
    cases e
    exact hb
  clear hc
  go_enter Tryd.func43, Tryd.ntmps43
  go_wp2_with (first | (refine wpList_alloc rfl 23 rfl (irow .u8 (zr 32)) zkey ?_) | fail)
  try simp only [size_alloc1, Act.put, List.setIfInBounds_toArray, List.set_cons_succ, List.set_cons_zero]
  have ysz : (w.alloc (.cells (irow .u8 (zr 32)) 23)).heap.size = w.heap.size + 1 := size_alloc1 _ _
  generalize (w.alloc (.cells (irow .u8 (zr 32)) 23)) = w0 at *
  refine (a_new w0 f0).mono ?_
  rintro e_ w1 ⟨rfl, r1, hb⟩
  replace r0 := keep hb r0
  replace hB0 := hB0.keep hb
  replace f4 := f4.below hb
  replace hw := Below.after hw hb
  clear hb f0
  rw [ysz] at r1 ⊢
  clear ysz
  have cW := a_write [] bs (w.heap.size + 1) w1 _ r1 hB0 (fun a l c h hl => by cases h; have := hne a rfl hl; omega) (fun a l c h => by cases h; exact hcap) (by omega) f4 (by simp) (by simp; omega)
  rw [List.nil_append] at cW
  go_wp2_with (fail)
  refine cW.mono ?_
  rintro e_ w2 ⟨rfl, r2, hgr⟩
  have l0 := lt_of_row r0
  replace r0 : w2.heap[w.heap.size]? = _ := (hgr.block _ l0 (by intro e; injection e with e; omega)).trans r0
  replace f4 := f4.grown hgr (by omega)
  replace hw := hw.grown hgr hw.size (fun k h => by injection h with h; omega)
  clear hgr cW r1
  have cS := a_hsum bs (w.heap.size + 1) w2 f4 r2 hz hlim
  go_wp2_with (fail)
  refine cS.mono ?_
  rintro e_ w3 ⟨rfl, hb⟩
  replace r0 := keep hb r0
  replace hw := Below.after hw hb
  clear hb cS
  go_wp2_with (first | (refine wpList_store_row rfl 23 _ _ rfl (w.heap.size) (irow .u8 (sumL bs)) rfl rfl 23 _ r0 (infok8 _ hSl) (fit32 _ _ (zr_len 32) hSl) (irow_one _ _) ?_) | fail)
  replace r0 := setRow_heap w3 (w.heap.size) _ (irow .u8 (sumL bs)) _ _ r0
  replace hw := below_setRow hw (Nat.le_refl _) (irow .u8 (sumL bs))
  generalize w3.setRow (w.heap.size) (irow .u8 (sumL bs)) = w9 at *
  exact bodyPost_ret (v := .agg (irow .u8 (sumL bs))) (results_cell_row Tryd.results43 _ _ (w.heap.size) _ _ _ _ rfl r0 Tryd.underlying23 rfl (infok8 _ hSl)) rfl ⟨rfl, hw⟩

end Go.Proofs.YtlbcdjflcghkeaaDoor


namespace Go.Proofs.YtlbcdjflcghkeaaDoor
set_option maxRecDepth 100000
open Go Go.RowKit Go.Sort

/-! A hash that lies at the head of a greater row. -/
def hcx (R : List Value) (ws ps : List Int) (sz : Int) : Array Value := (ws.map (Value.int .u32) ++ (ps.map (Value.int .u8) ++ (Value.int .u64 sz :: R))).toArray
def hsx (R : List Value) (bs : List Int) : Array Value := hcx R (hwords bs) (hpart bs) (bs.length : Int)
theorem hsx_nil (bs : List Int) : hsx [] bs = hst bs := rfl
theorem hsx_eq (R : List Value) (bs : List Int) : hsx R bs = hst bs ++ R.toArray := by
  apply Array.ext'
  simp [hsx, hcx, hst, hcells]
theorem hsx_less (R : List Value) (a c : List Int) (h : a.length % 64 + c.length < 64) : hsx R (a ++ c) = hcx R (hwords a) (prt (wat (a ++ c) (a.length / 64)) (a.length % 64 + c.length)) ((a.length : Int) + c.length) := by
  have e1 : (a ++ c).length / 64 = a.length / 64 := by rw [List.length_append]; omega
  have e2 : (a ++ c).length % 64 = a.length % 64 + c.length := by rw [List.length_append]; omega
  unfold hsx hwords hpart
  rw [e1, e2, fol_append _ _ _ _ (by omega), List.length_append]
  rfl
theorem hsx_full (R : List Value) (a c : List Int) (h : a.length % 64 + c.length = 64) : hsx R (a ++ c) = hcx R (blk (hwords a) (prt (wat (a ++ c) (a.length / 64)) 64)) (zr 64) ((a.length : Int) + c.length) := by
  have e1 : (a ++ c).length / 64 = a.length / 64 + 1 := by rw [List.length_append]; omega
  have e2 : (a ++ c).length % 64 = 0 := by rw [List.length_append]; omega
  unfold hsx hwords hpart
  rw [e1, e2, fol, fol_append _ _ _ _ (by omega), List.length_append, prt_zero]
  rfl
theorem hcx_size (R : List Value) (ws ps : List Int) (sz : Int) (h1 : ws.length = 8) (h2 : ps.length = 64) : (hcx R ws ps sz).size = 73 + R.length := by simp [hcx, h1, h2]; omega
theorem hcx_words (R : List Value) (ws ps : List Int) (sz : Int) (h1 : ws.length = 8) : (hcx R ws ps sz).extract 0 (0 + 8) = irow .u32 ws := by
  apply Array.ext'
  simp [hcx, irow, h1]
theorem hcx_part (R : List Value) (ws ps : List Int) (sz : Int) (h1 : ws.length = 8) (h2 : ps.length = 64) : (hcx R ws ps sz).extract 8 (8 + 64) = irow .u8 ps := by
  apply Array.ext'
  simp [hcx, irow, h1, h2]
theorem hcx_eq (R : List Value) (ws ps : List Int) (sz : Int) : hcx R ws ps sz = hcells ws ps sz ++ R.toArray := by
  apply Array.ext'
  simp [hcx, hcells]
theorem hcx_whole (R : List Value) (ws ps : List Int) (sz : Int) (h1 : ws.length = 8) (h2 : ps.length = 64) : (hcx R ws ps sz).extract 0 (0 + (hcells ws ps sz).size) = hcells ws ps sz := by
  have h := hcells_size ws ps sz h1 h2
  apply Array.ext'
  rw [h, Array.toList_extract, hcx_eq, Array.toList_append, List.extract_eq_take_drop, List.drop_zero, Nat.zero_add, Nat.sub_zero, List.take_left' (by rw [Array.length_toList, h])]
theorem hcx_at (R : List Value) (ws ps : List Int) (sz : Int) (h1 : ws.length = 8) (h2 : ps.length = 64) : (hcx R ws ps sz)[72]? = some (.int .u64 sz) := by
  rw [hcx_eq, Array.getElem?_append_left (by rw [hcells_size _ _ _ h1 h2]; decide)]
  exact hcells_at ws ps sz h1 h2
theorem hcx_setsz (R : List Value) (ws ps : List Int) (sz z : Int) (h1 : ws.length = 8) (h2 : ps.length = 64) : (hcx R ws ps sz).setIfInBounds 72 (.int .u64 z) = hcx R ws ps z := by
  apply Array.ext'
  simp [hcx, h1, h2]
theorem hcx_copy (R : List Value) (ws ps c : List Int) (sz : Int) (o : Nat) (h1 : ws.length = 8) (h2 : ps.length = 64) (hc : o + c.length ≤ 64) : ((hcx R ws ps sz).toList.take (8 + o) ++ c.map (Value.int .u8) ++ (hcx R ws ps sz).toList.drop (8 + o + (c.map (Value.int .u8)).length)).toArray = hcx R ws (ps.take o ++ c ++ ps.drop (o + c.length)) sz := by
  apply Array.ext'
  have e1 : 8 + o - ws.length = o := by omega
  have e2 : 8 + o + c.length - ws.length = o + c.length := by omega
  simp only [hcx, List.length_map, List.take_append, List.drop_append, h1, h2, List.map_append, List.map_take, List.map_drop]
  rw [List.take_of_length_le (show (ws.map (Value.int .u32)).length ≤ 8 + o by simp; omega), List.drop_eq_nil_of_le (show (ws.map (Value.int .u32)).length ≤ 8 + o + c.length by simp; omega), show 8 + o - 8 = o by omega, show 8 + o + c.length - 8 = o + c.length by omega, show o - 64 = 0 by omega, show o + c.length - 64 = 0 by omega]
  simp [List.append_assoc]
theorem hcx_setwords (R : List Value) (ws vs ps : List Int) (sz : Int) (h1 : ws.length = 8) (h2 : ps.length = 64) (h3 : vs.length = 8) : ovw (hcx R ws ps sz) 0 (irow .u32 vs).toList = hcx R vs ps sz := by
  apply Array.ext'
  rw [ovw_list _ _ _ (by rw [hcx_size _ _ _ _ h1 h2]; simp [irow, h3]; omega)]
  simp [hcx, irow, h1, h3]
theorem hcx_setpart (R : List Value) (ws ps qs : List Int) (sz : Int) (h1 : ws.length = 8) (h2 : ps.length = 64) (h3 : qs.length = 64) : ovw (hcx R ws ps sz) 8 (irow .u8 qs).toList = hcx R ws qs sz := by
  apply Array.ext'
  rw [ovw_list _ _ _ (by rw [hcx_size _ _ _ _ h1 h2]; simp [irow, h3]; omega)]
  simp only [hcx, irow, h1, h3, List.length_map, List.take_append, List.take_of_length_le (show (ws.map (Value.int .u32)).length ≤ 8 by simp; omega)]
  rw [show 8 - 8 = 0 from rfl, List.take_zero, ← List.append_assoc (ws.map (Value.int .u32)) (ps.map (Value.int .u8)), List.drop_left' (by simp; omega)]
  simp
end Go.Proofs.YtlbcdjflcghkeaaDoor

namespace Go.Proofs.YtlbcdjflcghkeaaDoor
set_option maxRecDepth 100000
open Go Go.RowKit Go.Sort
attribute [local go_sem] setCell_drewN alloc_drewN

theorem copy_partR {W : World} {R : List Value} {t : TypeId} {g r b0 o n : Nat} {ws ps c : List Int} {sz : Int} (hg : W.heap[g]? = some (.cells (hcx R ws ps sz) t (0, 0))) (h1 : ws.length = 8) (h2 : ps.length = 64) (hc : ∀ j, j < c.length → W.cell? ⟨b0, o + j, none⟩ = some (.int .u8 (c.getD j 0))) (hn : c.length = n) (hr : r + n ≤ 64) :
    (Builtin.copy_ #[67, 67] 3 #[.slice (some ⟨g, 8 + r, none⟩) (64 - r) (64 - r), .slice (some ⟨b0, o, none⟩) n n]).run Tryd.prog W = .ok (goInt n) (W.setRow g (hcx R ws (ps.take r ++ c ++ ps.drop (r + n)) sz)) := by
  have hsrc : ∀ j u, (c.map (Value.int .u8))[j]? = some u → W.cell? ((⟨b0, o, none⟩ : Addr).add j) = some u := by
    intro j u hu
    have hj : j < c.length := by have := (List.getElem?_eq_some_iff.1 hu).1; simpa using this
    have : u = .int .u8 (c.getD j 0) := by
      simp only [List.getElem?_map, List.getElem?_eq_getElem hj, Option.map_some, Option.some.injEq] at hu
      rw [← hu, List.getD_eq_getElem?_getD, List.getElem?_eq_getElem hj]; rfl
    rw [this, addr_add]
    exact hc j hj
  have hrun := run_copy_row (P := Tryd.prog) W 67 67 3 5 g (8 + r) (64 - r) (64 - r) ⟨b0, o, none⟩ n n (hcx R ws ps sz) t (c.map (Value.int .u8)) Tryd.underlying67 (by kernel_rfl) hg (by rw [List.length_map, hn]; exact (Nat.min_eq_left (by omega)).symm) hsrc (by rw [hcx_size R _ _ _ h1 h2, List.length_map]; omega) (ints_one .u8 c)
  rw [hcx_copy R ws ps c sz r h1 h2 (by omega), List.length_map, hn] at hrun
  exact hrun
set_option maxRecDepth 100000 in
set_option maxHeartbeats 8000000 in
theorem a_writeR (R : List Value) (t : TypeId) (bs b : List Int) (g : Nat) (w : World) (v : Value) (hH : w.heap[g]? = some (.cells (hsx R bs) t (0, 0))) (hB : Bys w v b) (hne : ∀ a l c, v = .slice (some a) l c → 0 < l → a.block ≠ g) (hcap : ∀ a l c, v = .slice a l c → l ≤ c) (hg1 : 2 < g) (hK : Kon w) (hzb : ∀ z ∈ bs, 0 ≤ z ∧ z < 256) (hlim : bs.length + b.length ≤ 4611686018427387904) :
    Calls Tryd.prog 57 #[.pointer (some ⟨g, 0, none⟩), v] w fun e w' => e = .returned (.tuple #[]) ∧ w'.heap[g]? = some (.cells (hsx R (bs ++ b)) t (0, 0)) ∧ w.grownBy w' (some g) := by
  obtain ⟨ao, cap, rfl, hl63, hc, hz⟩ := hB
  replace hcap := hcap _ _ _ rfl
  generalize elen : b.length = len at *
  have hgl := lt_of_row hH
  go_enter Tryd.func57, Tryd.ntmps57
  go_wp2_with (fail)
  go_loopw [1] (fun x wr => ∃ (k : Nat) (ao' : Option Addr), k ≤ len ∧ x = .slice ao' (len - k) (cap - k) ∧ (k < len → ∃ b0 off, ao = some ⟨b0, off, none⟩ ∧ ao' = some ⟨b0, off + k, none⟩) ∧ wr.heap[g]? = some (.cells (hsx R (bs ++ b.take k)) t (0, 0)) ∧ w.grownBy wr (some g)) (fun x _ => slen x)
  case atStart =>
    refine ⟨0, ao, by omega, rfl, fun h => ?_, by simpa using hH, World.grownBy.refl _ _⟩
    obtain ⟨b0, off, e, _⟩ := hc 0 h
    exact ⟨b0, off, e, e⟩
  case round =>
    obtain ⟨k, ao', hk, rfl, hadr, rH, hw⟩ := hrel
    by_cases hlt : k < len
    · obtain ⟨b0, off, rfl, rfl⟩ := hadr hlt
      have hb0 := hne _ _ _ rfl (by omega)
      replace hb0 : b0 ≠ g := hb0
      have hcell : ∀ j, j < len → wr.cell? ⟨b0, off + j, none⟩ = some (.int .u8 (b.getD j 0)) := fun j hj => by
        obtain ⟨b1, o1, e, hb1, hb2⟩ := hc j hj
        cases e
        exact hw.cell hb2 (by intro e; injection e with e; exact hb0 e)
      have f4 : Kon wr := by
        obtain ⟨t, fr, h⟩ := hK
        exact ⟨t, fr, (hw.block 2 (Array.getElem?_eq_some_iff.1 h).1 (by intro e; injection e with e; omega)).trans h⟩
      have hal : (bs ++ b.take k).length = bs.length + k := by rw [List.length_append, List.length_take]; omega
      have hab : ∀ z ∈ bs ++ b.take k, 0 ≤ z ∧ z < 256 := both_bd hzb (fun z h => hz z (List.mem_of_mem_take h))
      have hnx : ∀ n, bs ++ b.take (k + n) = bs ++ b.take k ++ (b.drop k).take n := fun n => by rw [List.append_assoc, ← List.take_add]
      have hgl2 := lt_of_row rH
      clear hadr hne hc hH hK hzb
      generalize bs ++ b.take k = a at *
      have hw8 := hwords_len a
      have hp64 := hpart_len a
      have hless := hsx_less R a
      have hfull := hsx_full R a
      have hwat := wat_bd (bs := a)
      have hover := fun c => part_over a c (a.length / 64) (a.length % 64) (by omega)
      rw [show prt (wat a (a.length / 64)) (a.length % 64) = hpart a from rfl] at hover
      rw [hsx] at rH
      have csz := cell_of rH (hcx_at R _ _ _ hw8 hp64)
      generalize eA : a.length = A at *
      obtain ⟨r, er⟩ : ∃ r : Nat, r = A % 64 := ⟨_, rfl⟩
      have hr : r < 64 := by omega
      have eri : (A : Int) % 64 = (r : Int) := by omega
      rw [← er] at hover hless hfull
      generalize A / 64 = q at *
      generalize hwords a = ws at *
      generalize hpart a = ps at *
      obtain ⟨m, em⟩ : ∃ m : Nat, m = len - k := ⟨_, rfl⟩
      rw [← em]
      have hm : 0 < m := by omega
      obtain ⟨C, eC⟩ : ∃ C : Nat, C = cap - k := ⟨_, rfl⟩
      rw [← eC]
      have hmC : m ≤ C := by omega
      have hAl : A ≤ 4611686018427387904 := by omega
      have hAm : A + m ≤ 4611686018427387904 := by omega
      clear hwat
      -- how many bytes the block takes up
      obtain ⟨n, hn1, hnm, hn64, hdec⟩ : ∃ n : Nat, 0 < n ∧ n ≤ m ∧ r + n ≤ 64 ∧ ((n = m ∧ m < 64 - r) ∨ (n = 64 - r ∧ 64 - r ≤ m)) := by
        by_cases h : m < 64 - r
        · exact ⟨m, hm, Nat.le_refl _, by omega, .inl ⟨rfl, h⟩⟩
        · exact ⟨64 - r, by omega, by omega, by omega, .inr ⟨rfl, by omega⟩⟩
      have hcl : ((b.drop k).take n).length = n := by rw [List.length_take, List.length_drop]; omega
      have hcs : ∀ j, j < ((b.drop k).take n).length → wr.cell? ⟨b0, off + k + j, none⟩ = some (.int .u8 (((b.drop k).take n).getD j 0)) := fun j hj => by
        rw [hcl] at hj
        have := hcell (k + j) (by omega)
        rw [← Nat.add_assoc] at this
        rw [this, List.getD_eq_getElem?_getD, List.getD_eq_getElem?_getD, List.getElem?_take_of_lt hj, List.getElem?_drop]
      have hnx' := hnx n
      have hov := hover ((b.drop k).take n) (by rw [hcl]; exact hn64)
      have hls := hless ((b.drop k).take n)
      have hfl := hfull ((b.drop k).take n)
      have hcb : ∀ z ∈ a ++ (b.drop k).take n, 0 ≤ z ∧ z < 256 := both_bd hab (fun z h => hz z (List.mem_of_mem_drop (List.mem_of_mem_take h)))
      have hpo := prt_bd (wat_bd hcb q) 64
      rw [hcl] at hov hls hfl
      clear hover hless hfull hnx hcell hcb hab hz
      generalize (b.drop k).take n = c at *
      generalize eo : off + k = o at *
      replace eo := hide eo
      have sl1 := slice_part g r hr
      have sl2 := slice_first ⟨b0, o, none⟩ m C n (by omega)
      rw [if_neg (show ¬ n = 0 by omega), addr_add, Nat.add_zero] at sl2
      obtain ⟨ao2, hao2, sl3⟩ := slice_rest b0 o m C n hnm hmC
      have hpl : (ps.take r ++ c ++ ps.drop (r + n)).length = 64 := by rw [hov, prt_len]
      have hcp := fun (W : World) (rW : W.heap[g]? = some (.cells (hcx R ws ps (A : Int)) t (0, 0))) hcW => copy_partR (W := W) (r := r) (b0 := b0) (o := o) (c := c) rW hw8 hp64 hcW hcl hn64
      rw [hov] at hpl
      simp only [hov] at hcp
      replace hov := hide hov
      replace hnx' := hide hnx'
      replace hls := hide hls
      replace hfl := hide hfl
      replace hpo := hide hpo
      have hAn : (A : Int) + (n : Int) < 18446744073709551616 := by omega
      rcases hdec with ⟨hE, hE2⟩ | ⟨hE, hE2⟩
      · have e64 : ¬ ((64 : Int) - (r : Int) ≤ (m : Int)) := by omega
        have hmod : (((A : Int) + (n : Int)) % 64 == 0) = false := by rw [beq_eq_false_iff_ne]; omega
        clear er hal hlim hl63
        replace em := hide em
        replace eC := hide eC
        replace elen := hide elen
        subst hE
        go_wp2
        refine wp_region_alloc_ex 9 9 [] (fun _ => .cells #[] 0 (0, 0)) (by kernel_rfl) (by decide) (by decide) (by kernel_rfl) (by kernel_rfl) (by kernel_rfl) (by kernel_rfl) (by kernel_rfl) (by kernel_rfl) (by kernel_rfl) (by kernel_rfl) (by decide) (by decide) ?_ ?_
        · intro s l u
          omega
        apply Exists.intro
        constructor
        · intro v_ hb
          clear hb; dsimp only [List.take]
          go_big_quiet_step (fail)
          go_big_quiet_step (fail)
          go_big_quiet_step (fail)
          go_big_quiet_step (fail)
          go_big_quiet_step (fail)
          go_big_quiet_step (fail)
          go_big_quiet_step (fail)
          go_big_quiet_step (fail)
          go_big_quiet_step (fail)
          refine wpQuiet_nil ?_
          rfl
        intro w1 g_ hb _ _
        simp only [List.drop, puts, ptrs, List.map, List.foldl, Act.put]

        have hcs1 : ∀ j, j < c.length → w1.cell? ⟨b0, o + j, none⟩ = some (.int .u8 (c.getD j 0)) := fun j hj => (hb.cell (p := ⟨b0, o + j, none⟩) (blk_lt (hcs j hj))).trans (hcs j hj)
        have rH1 := keep hb rH
        have hcopy := hcp w1 rH1 hcs1
        replace f4 := f4.below hb
        replace hw := grown_setRow (hcx R ws (prt (wat (a ++ c) q) (r + n)) (A : Int)) (grown_below hw hb)
        have r2 := setRow_heap w1 g _ (hcx R ws (prt (wat (a ++ c) q) (r + n)) (A : Int)) _ _ rH1
        replace f4 := f4.belowN (n := 3) (by omega) (below_setRow (Below.refl _ _) (show 3 ≤ g by omega) (hcx R ws (prt (wat (a ++ c) q) (r + n)) (A : Int)))
        have csz2 := cell_of r2 (hcx_at R _ _ _ hw8 hpl)
        have hf2 := row_frozen r2 72
        have r3 := heap_setCell_same _ g 72 _ _ (.int .u64 ((A : Int) + (n : Int))) r2
        rw [hcx_setsz R _ _ _ _ hw8 hpl] at r3
        replace hw := grown_setCell (j := 72) (v := .int .u64 ((A : Int) + (n : Int))) hw
        clear hcp hcs hcs1 rH rH1 csz hb sl1 sl2
        generalize w1.setRow g (hcx R ws (prt (wat (a ++ c) q) (r + n)) (A : Int)) = w2 at *
        go_wp2
        refine ⟨⟨k + n, ao2, by have := em.out; omega, by have e1 := em.out; have e2 := eC.out; rw [show len - (k + n) = 0 by omega, show cap - (k + n) = C - n by omega], fun h => by have e1 := em.out; omega, by rw [hnx'.out, hls.out (by omega)]; exact r3, hw⟩, ?_⟩
        simp [slen]; omega
      · have h64 : r + n = 64 := by omega
        have e64 : (64 : Int) - (r : Int) ≤ (m : Int) := by omega
        have hmod : (((A : Int) + (n : Int)) % 64 == 0) = true := by rw [beq_iff_eq]; omega
        rw [h64] at hpl
        simp only [h64] at hcp
        have en : (64 : Int) - (r : Int) = (n : Int) := by omega
        replace h64 := hide h64
        replace hE := hide hE
        clear er hal hlim hl63
        replace em := hide em
        replace eC := hide eC
        replace elen := hide elen
        go_wp2
        refine wp_region_alloc_ex 9 9 [] (fun _ => .cells #[] 0 (0, 0)) (by kernel_rfl) (by decide) (by decide) (by kernel_rfl) (by kernel_rfl) (by kernel_rfl) (by kernel_rfl) (by kernel_rfl) (by kernel_rfl) (by kernel_rfl) (by kernel_rfl) (by decide) (by decide) ?_ ?_
        · intro s l u
          omega
        apply Exists.intro
        constructor
        · intro v_ hb
          clear hb; dsimp only [List.take]
          go_big_quiet_step (fail)
          go_big_quiet_step (fail)
          go_big_quiet_step (fail)
          go_big_quiet_step (fail)
          go_big_quiet_step (fail)
          go_big_quiet_step (fail)
          go_big_quiet_step (fail)
          go_big_quiet_step (fail)
          go_big_quiet_step (fail)
          refine wpQuiet_nil ?_
          rfl
        intro w1 g_ hb _ _
        simp only [List.drop, puts, ptrs, List.map, List.foldl, Act.put]

        have hcs1 : ∀ j, j < c.length → w1.cell? ⟨b0, o + j, none⟩ = some (.int .u8 (c.getD j 0)) := fun j hj => (hb.cell (p := ⟨b0, o + j, none⟩) (blk_lt (hcs j hj))).trans (hcs j hj)
        have rH1 := keep hb rH
        have hcopy := hcp w1 rH1 hcs1
        replace f4 := f4.below hb
        replace hw := grown_setRow (hcx R ws (prt (wat (a ++ c) q) 64) (A : Int)) (grown_below hw hb)
        have r2 := setRow_heap w1 g _ (hcx R ws (prt (wat (a ++ c) q) 64) (A : Int)) _ _ rH1
        replace f4 := f4.belowN (n := 3) (by omega) (below_setRow (Below.refl _ _) (show 3 ≤ g by omega) (hcx R ws (prt (wat (a ++ c) q) 64) (A : Int)))
        have csz2 := cell_of r2 (hcx_at R _ _ _ hw8 hpl)
        have hf2 := row_frozen r2 72
        have r3 := heap_setCell_same _ g 72 _ _ (.int .u64 ((A : Int) + (n : Int))) r2
        rw [hcx_setsz R _ _ _ _ hw8 hpl] at r3
        replace hw := grown_setCell (j := 72) (v := .int .u64 ((A : Int) + (n : Int))) hw
        clear hcp hcs hcs1 rH rH1 csz hb sl1 sl2
        generalize w1.setRow g (hcx R ws (prt (wat (a ++ c) q) 64) (A : Int)) = w2 at *
        go_wp2
        have f5 := f4.belowN (n := 3) (by omega) ((Below.refl 3 w2).setCell (show 3 ≤ (⟨g, 72, none⟩ : Addr).block from hg1) (.int .u64 ((A : Int) + (n : Int))))
        have cB := a_block ws (prt (wat (a ++ c) q) 64) hw8 hpl hpo.out
        have hbl := blk_len ws (prt (wat (a ++ c) q) 64)
        have hres := hfl.out h64.out
        generalize w2.setCell ⟨g, 72, none⟩ (.int .u64 ((A : Int) + (n : Int))) = w3 at *
        clear hcopy r2 f4 csz2 hf2 hls hfl hov hpo
        generalize prt (wat (a ++ c) q) 64 = NP at *
        generalize blk ws NP = BW at *
        have hpw : (hcx R ws NP ((A : Int) + (n : Int))).extract 0 (0 + (irow .u32 ws).size) = irow .u32 ws := by rw [irow_size, hw8]; exact hcx_words R _ _ _ hw8
        have hpp : (hcx R ws NP ((A : Int) + (n : Int))).extract 8 (8 + (irow .u8 NP).size) = irow .u8 NP := by rw [irow_size, hpl]; exact hcx_part R _ _ _ hw8 hpl
        have HR := keepr r3
        replace hres := hide hres
        refine wp_region_tail (C := fun w' => ∃ p : Regrown, w' = grow (redrawn w3 p.d) p.os) 12 _ rfl rfl rfl (by kernel_rfl) (by kernel_rfl) (by kernel_rfl) (by kernel_rfl) ⟨⟨w3.drawn + 1, #[]⟩, by rw [grow_empty]; rfl⟩ ?_
        dsimp only [List.set, idle]
        go_big_quiet_step (fail)
        go_big_quiet_step (fail)
        go_big_quiet_step (fail)
        go_big_quiet_step (fail)
        refine wpQuiet_load_part rfl 112 _ rfl g 0 rfl t (hcx R ws NP ((A : Int) + (n : Int))) (0, 0) (irow .u32 ws) _ HR.out hpw Tryd.underlying112 rfl (info23 _ hw8) ?_
        simp only [Act.put, List.setIfInBounds_toArray, List.set_cons_succ, List.set_cons_zero]
        go_big_quiet_step (fail)
        go_big_quiet_step (fail)
        go_big_quiet_step (fail)
        refine wpQuiet_load_part rfl 113 _ rfl g 8 rfl t (hcx R ws NP ((A : Int) + (n : Int))) (0, 0) (irow .u8 NP) _ HR.out hpp Tryd.underlying113 rfl (info24 _ hpl) ?_
        simp only [Act.put, List.setIfInBounds_toArray, List.set_cons_succ, List.set_cons_zero]
        go_big_quiet_step (exact cB.re f5)
        go_big_quiet_step (fail)
        go_big_quiet_step (fail)
        refine wpQuiet_idle rfl rfl rfl ?_
        rintro _ ⟨p, rfl⟩
        have hb := below_regrown w3 p.d p.os
        generalize grow (redrawn w3 p.d) p.os = w4 at *
        replace r3 := keep hb r3
        replace hw := grown_below hw hb
        clear hb

        clear HR hpw hpp cB f5
        go_wp2_with (first | (refine wpList_store_part rfl 112 _ _ rfl g 0 (irow .u32 BW) rfl rfl t _ (hcx R BW NP ((A : Int) + (n : Int))) r3 (by rw [irow_size, hbl, hcx_size R _ _ _ hw8 hpl]; omega) (hcx_setwords R _ _ _ _ hw8 hpl hbl) (info23 _ hbl) (irow_one _ _) ?_) | (refine wpList_build_as rfl 113 _ rfl [] rfl (irow .u8 (zr 64)) zbuilt ?_) | (refine wpList_store_part rfl 113 _ _ rfl g 8 (irow .u8 (zr 64)) rfl rfl t _ (hcx R BW (zr 64) ((A : Int) + (n : Int))) (setRow_heap w4 g _ (hcx R BW NP ((A : Int) + (n : Int))) _ _ r3) (by rw [irow_size, zr_len, hcx_size R _ _ _ hbl hpl]; omega) (hcx_setpart R _ _ _ _ hbl hpl (zr_len 64)) (info24 _ (zr_len 64)) (irow_one _ _) ?_) | fail)
        have r5 := setRow_heap _ g _ (hcx R BW (zr 64) ((A : Int) + (n : Int))) _ _ (setRow_heap w4 g _ (hcx R BW NP ((A : Int) + (n : Int))) _ _ r3)
        replace hw := grown_setRow (hcx R BW (zr 64) ((A : Int) + (n : Int))) (grown_setRow (hcx R BW NP ((A : Int) + (n : Int))) hw)
        generalize (w4.setRow g (hcx R BW NP ((A : Int) + (n : Int)))).setRow g (hcx R BW (zr 64) ((A : Int) + (n : Int))) = w6 at *
        simp only [Act.put]
        refine ⟨?_, ?measure⟩
        apply Exists.intro
        apply Exists.intro
        repeat apply Exists.intro
        refine ⟨?rel, rfl⟩
        case rel =>
          refine ⟨k + n, ao2, by have := em.out; omega, by have e1 := em.out; have e2 := eC.out; rw [show len - (k + n) = m - n by omega, show cap - (k + n) = C - n by omega], fun h => ⟨b0, off, rfl, ?_⟩, by rw [hnx'.out, hres.out]; exact r5, hw⟩
          rw [hao2 (by have e1 := em.out; omega), ← eo.out, Nat.add_assoc]
        case measure =>
          show m - n < m
          omega
    · obtain rfl : k = len := by omega
      have hd : decide ((0 : Int) < ((k - k : Nat) : Int)) = false := by simp
      have et : b.take k = b := List.take_of_length_le (by omega)
      rw [et] at rH
      go_wp2
      go_end0
      exact ⟨rfl, rH, hw⟩

end Go.Proofs.YtlbcdjflcghkeaaDoor

