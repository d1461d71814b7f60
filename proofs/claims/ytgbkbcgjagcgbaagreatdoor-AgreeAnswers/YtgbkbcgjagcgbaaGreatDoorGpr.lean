import Derived.Test.YtgbkbcgjagcgbaaGreatDoorProg
import Derived.WalkKit
import Derived.WalkSpells
import Derived.WalkLawsBesides
import Derived.Lib.QuietBelow
import Derived.BigQuiet
import Derived.Test.YtgbkbcgjagcgbaaGreatDoorKa
import Derived.Test.YtgbkbcgjagcgbaaGreatDoorGik
import Derived.Test.YtgbkbcgjagcgbaaGreatDoorGsf
import Derived.Test.YtgbkbcgjagcgbaaGreatDoorRdh
namespace Go.Proofs.YtgbkbcgjagcgbaaGreatDoor.Lo
set_option maxRecDepth 100000
open Go.RowKit Go.Sort
attribute [local go_sem] setCell_drewN alloc_drewN
def Bys (W : World) (v : Value) (bs : List Int) : Prop := ∃ ao cap, v = .slice ao bs.length cap ∧ bs.length ≤ 9223372036854775807 ∧ (∀ j, j < bs.length → ∃ b off, ao = some ⟨b, off, none⟩ ∧ b < W.heap.size ∧ W.cell? ⟨b, off + j, none⟩ = some (.int .u8 (bs.getD j 0))) ∧ (∀ z ∈ bs, 0 ≤ z ∧ z < 256)
theorem Bys.keep {W W' : World} {v : Value} {bs : List Int} (h : Bys W v bs) (hb : Below W.heap.size W W') : Bys W' v bs := by
 obtain ⟨ao, cap, e, hl, hc, hz⟩ := h
 refine ⟨ao, cap, e, hl, fun j hj => ?_, hz⟩
 obtain ⟨b, off, e1, h1, h2⟩ := hc j hj
 exact ⟨b, off, e1, Nat.lt_of_lt_of_le h1 hb.size, (hb.cell h1).trans h2⟩
def bval : List Int → Nat
 | [] => 0
 | z :: l => z.toNat + 256 * bval l
def bat (bs : List Int) (k : Nat) : Int := bs.getD (bs.length - 1 - k) 0
theorem bat_bd {bs : List Int} (h : ∀ z ∈ bs, 0 ≤ z ∧ z < 256) {k : Nat} (hk : k < bs.length) : 0 ≤ bat bs k ∧ bat bs k < 256 := by
 apply h
 have : bs.length - 1 - k < bs.length := by omega
 unfold bat
 rw [List.getD_eq_getElem?_getD, List.getElem?_eq_getElem this]
 exact List.getElem_mem _
def topv (bs : List Int) (k : Nat) : Nat := bval (bs.drop (bs.length - k))
theorem topv_zero (bs : List Int) : topv bs 0 = 0 := by simp [topv, bval]
theorem topv_succ {bs : List Int} {k : Nat} (hk : k < bs.length) : topv bs (k + 1) = topv bs k * 256 + (bat bs k).toNat := by
 have h1 : bs.length - (k + 1) < bs.length := by omega
 unfold topv bat
 rw [List.drop_eq_getElem_cons h1, bval, show bs.length - (k + 1) + 1 = bs.length - k by omega, show bs.length - 1 - k = bs.length - (k + 1) by omega, List.getD_eq_getElem?_getD, List.getElem?_eq_getElem h1]
 simp only [Option.getD_some]
 omega
theorem topv_all (bs : List Int) : topv bs bs.length = bval bs := by simp [topv]
end Go.Proofs.YtgbkbcgjagcgbaaGreatDoor.Lo
namespace Go.Proofs.YtgbkbcgjagcgbaaGreatDoor.Lo
set_option maxRecDepth 100000
open Go.RowKit Go.Sort
attribute [local go_sem] setCell_drewN alloc_drewN
def brow (l : List Int) : Array Value := (l.map fun z => Value.int .u8 z).toArray
theorem brow_get (l : List Int) (k : Nat) (hk : k < l.length) : (brow l)[k]? = some (.int .u8 (l.getD k 0)) := by
 simp [brow, List.getElem?_eq_getElem hk, List.getD_eq_getElem?_getD]
theorem brow_cell {W : World} {g : Nat} {l : List Int} {t : TypeId} (hg : W.heap[g]? = some (.cells (brow l) t (0, 0))) {k : Nat} (hk : k < l.length) : W.cell? ⟨g, k, none⟩ = some (.int .u8 (l.getD k 0)) := by
 simp only [World.cell?, hg]
 simpa using brow_get l k hk
theorem brow_frozen {W : World} {g : Nat} {l : List Int} {t : TypeId} (hg : W.heap[g]? = some (.cells (brow l) t (0, 0))) (k : Nat) : W.frozen? ⟨g, k, none⟩ = false := by
 simp [World.frozen?, hg]
theorem brow_set {W : World} {g : Nat} {l : List Int} {t : TypeId} (hg : W.heap[g]? = some (.cells (brow l) t (0, 0))) (k : Nat) (z : Int) : (W.setCell ⟨g, k, none⟩ (.int .u8 z)).heap[g]? = some (.cells (brow (l.set k z)) t (0, 0)) := by
 rw [heap_setCell_same W g k _ t _ hg]
 simp [brow, List.map_set]
theorem Bys.of_row {W : World} {g : Nat} {l : List Int} {t : TypeId} (hg : W.heap[g]? = some (.cells (brow l) t (0, 0))) (hl : l.length ≤ 9223372036854775807) (hz : ∀ z ∈ l, 0 ≤ z ∧ z < 256) (cap : Nat) : Bys W (.slice (some ⟨g, 0, none⟩) l.length cap) l := by
 refine ⟨_, cap, rfl, hl, fun j hj => ⟨g, 0, rfl, lt_of_row hg, ?_⟩, hz⟩
 rw [Nat.zero_add]
 exact brow_cell hg hj
def fillL (k : Nat) : List Int := List.replicate k 255 ++ List.replicate (32 - k) 0
end Go.Proofs.YtgbkbcgjagcgbaaGreatDoor.Lo
namespace Go.Proofs.YtgbkbcgjagcgbaaGreatDoor.Lo
set_option maxRecDepth 100000
open Go.RowKit Go.Sort
attribute [local go_sem] setCell_drewN alloc_drewN
def nl (k : Nat) : List Int := (List.range 32).map fun j => (((2 ^ k - 1) / 256 ^ j % 256 : Nat) : Int)
def onev (k : Nat) : Int := if k = 0 then 1 else if k % 8 = 0 then 0 else ((2 ^ (k % 8) : Nat) : Int)
def one2 (k : Nat) : Int := ((2 ^ (k % 8) : Nat) : Int)
theorem nl_len (k : Nat) : (nl k).length = 32 := by simp [nl]
theorem nl_set : ∀ k, k < 255 → (nl k).set (k / 8) ((nl k).getD (k / 8) 0 + one2 k) = nl (k + 1) := by decide +kernel
theorem nl_bd : ∀ k, k < 255 → 0 ≤ (nl k).getD (k / 8) 0 ∧ (nl k).getD (k / 8) 0 + one2 k < 256 := by decide +kernel
theorem nl_first' : ∀ k, k < 256 → 8 ≤ k → (nl k).getD 0 0 = 255 := by decide +kernel
theorem nl_first (k : Nat) (h : 8 ≤ k) (g : k < 256) : (nl k).getD 0 0 = 255 := nl_first' k g h
theorem nl_all (k : Nat) : ∀ z ∈ nl k, 0 ≤ z ∧ z < 256 := by
 intro z hz
 unfold nl at hz
 obtain ⟨j, _, rfl⟩ := List.mem_map.1 hz
 omega
theorem nl_zero : nl 0 = fillL 0 := by decide +kernel
theorem one_next : ∀ k, k < 255 → onev (k + 1) = one2 k * 2 % 256 := by decide +kernel
theorem one_same : ∀ k, k < 255 → k % 8 ≠ 0 → onev k = one2 k := by decide +kernel
theorem one_zero : ∀ k, k % 8 = 0 → one2 k = 1 := by intro k h; simp [one2, h]
theorem one_bd : ∀ k, 1 ≤ one2 k ∧ one2 k ≤ 128 := by
 intro k
 have : k % 8 < 8 := Nat.mod_lt _ (by decide)
 unfold one2
 generalize k % 8 = r at *
 rcases (by omega : r = 0 ∨ r = 1 ∨ r = 2 ∨ r = 3 ∨ r = 4 ∨ r = 5 ∨ r = 6 ∨ r = 7) with rfl | rfl | rfl | rfl | rfl | rfl | rfl | rfl <;> decide
set_option maxHeartbeats 2000000 in
theorem number_walk (K : Nat) (less : Int) (hK8 : 8 ≤ K) (hK : K ≤ 255) (h0 : 1 ≤ less) (h1 : less ≤ 255) (w : World) : Calls Tryz.prog 84 #[.int .i64 K, .int .i64 less] w fun e w' => ∃ ev, e = .returned ev ∧ Bys w' ev ((nl K).set 0 (255 - (less - 1))) ∧ Below w.heap.size w w' := by
 have hmk : (Instr.makeSlice 28 (.int .i64 32) (.int .i64 32)).run Tryz.prog w = .ok (.slice (some ⟨w.heap.size, 0, none⟩) 32 32) (w.alloc (.cells (brow (fillL 0)) 5)) := by kernel_rfl
 go_enter Tryz.func84, Tryz.ntmps84
 go_wp2
 go_loopw [6, 7] (fun o i wr => ∃ k : Nat, k ≤ K ∧ i = .int .i64 k ∧ o = .int .u8 (onev k) ∧ wr.heap[w.heap.size]? = some (.cells (brow (nl k)) 5 (0, 0)) ∧ Below w.heap.size w wr) (fun _ i _ => K - (intOf i).toNat)
 case atStart => exact ⟨0, by omega, rfl, rfl, by rw [nl_zero]; exact hp1_0 w _, (Below.refl _ _).alloc (Nat.le_refl _) _⟩
 case round =>
   obtain ⟨k, hk, rfl, rfl, r0, hw⟩ := hrel
   by_cases hlt : k < K
   · have hd : decide ((k : Int) < (K : Int)) = true := by simp; omega
     have hc := brow_cell r0 (k := k / 8) (by rw [nl_len]; omega)
     have hf := brow_frozen r0 (k / 8)
     have hz := nl_bd k (by omega)
     have hs := nl_set k (by omega)
     have hn := one_next k (by omega)
     have ho := one_bd k
     have hsame := one_same k (by omega)
     have hone := one_zero k
     generalize (nl k).getD (k / 8) 0 = z at *
     generalize one2 k = o at *
     by_cases h8 : k % 8 = 0
     · have hd8 : ((k : Int) % 8 == 0) = true := by rw [beq_iff_eq]; omega
       have e := hone h8
       subst e
       go_wp2
       go_roundw
       case rel => exact ⟨k + 1, by omega, by go_num, by rw [hn]; rfl, by rw [← hs]; exact brow_set r0 _ _, hw.setCell (Nat.le_refl _) _⟩
       case measure => simp [intOf]; omega
     · have hd8 : ((k : Int) % 8 == 0) = false := by rw [beq_eq_false_iff_ne]; omega
       rw [hsame h8]
       go_wp2
       go_roundw
       case rel => exact ⟨k + 1, by omega, by go_num, by rw [hn], by rw [← hs]; exact brow_set r0 _ _, hw.setCell (Nat.le_refl _) _⟩
       case measure => simp [intOf]; omega
   · obtain rfl : k = K := by omega
     have hd : decide ((k : Int) < (k : Int)) = false := by simp
     have hc := brow_cell r0 (k := 0) (by rw [nl_len]; omega)
     have hf := brow_frozen r0 0
     rw [nl_first k hK8 (by omega)] at hc
     have r1 := brow_set r0 0 (255 - (less - 1))
     have hlen : ((nl k).set 0 (255 - (less - 1))).length = 32 := by rw [List.length_set, nl_len]
     have hB := Bys.of_row r1 (by rw [hlen]; decide) (by
       intro z hz
       rcases List.mem_or_eq_of_mem_set hz with hz | rfl
       · exact nl_all k z hz
       · omega) 32
     rw [hlen] at hB
     clear r1 hlen
     go_wp2
     go_ret
     exact ⟨_, rfl, hB, hw.setCell (Nat.le_refl _) _⟩
end Go.Proofs.YtgbkbcgjagcgbaaGreatDoor.Lo
namespace Go.Proofs.YtgbkbcgjagcgbaaGreatDoor.Lo
set_option maxRecDepth 100000
open Go.RowKit Go.Sort
attribute [local go_sem] setCell_drewN alloc_drewN
theorem sq_pow (m : Int) (e : Nat) : m ^ e % prm * (m ^ e % prm) % prm = m ^ (e + e) % prm := by rw [← Int.mul_emod, ← Int.pow_add]
theorem mul_pow1 (m : Int) (e : Nat) : m ^ e % prm * m % prm = m ^ (e + 1) % prm := by rw [Int.mul_emod, Int.emod_emod, ← Int.mul_emod, ← Int.pow_succ]
theorem bit8 (z : Int) (j : Nat) (h0 : 0 ≤ z) (h1 : z < 256) (hj : j < 8) : (128 ≤ z * 2 ^ j % 256 ↔ z.toNat / 2 ^ (7 - j) % 2 = 1) ∧ z * 2 ^ j % 256 % 128 * 2 = z * 2 ^ (j + 1) % 256 ∧ z.toNat / 2 ^ (7 - j) / 2 = z.toNat / 2 ^ (8 - j) ∧ 8 - (j + 1) = 7 - j := by
 rcases (by omega : j = 0 ∨ j = 1 ∨ j = 2 ∨ j = 3 ∨ j = 4 ∨ j = 5 ∨ j = 6 ∨ j = 7) with rfl | rfl | rfl | rfl | rfl | rfl | rfl | rfl <;> simp <;> omega
set_option maxHeartbeats 4000000 in
set_option maxRecDepth 10000 in
theorem r_power {m : Int} (h : inP m) (bs : List Int) (w : World) (ev : Value) (hB : Bys w ev bs) :
   Calls Tryz.prog 83 #[.agg (rd m), ev] w fun e w' => e = .returned (.agg (rd (m ^ bval bs % prm))) ∧ Below w.heap.size w w' := by
 obtain ⟨ao, cap, rfl, hl, hc, hz⟩ := hB
 have hall := topv_all bs
 have co := r_small 1 (by decide) (by decide)
 have zinfo : (Tryz.prog.info? 101).map (·.size) = some (#[.int .u64 0, .int .u64 0, .int .u64 0, .int .u64 0, .int .u64 0, .int .u64 0, .int .u64 0, .int .u64 0, .int .u64 0, .int .u64 0, .int .u64 0, .int .u64 0, .int .u64 0, .int .u64 0, .int .u64 0, .int .u64 0] : Array Value).size := rd_info 0
 generalize hlen : bs.length = len at *
 go_enter Tryz.func83, Tryz.ntmps83
 go_wp2_with (first | (refine wpList_load_want rfl 101 _ rfl (w.heap.size) rfl 101 (rd m) (0, 0) _ (hp2_0 w _ _) Tryz.underlying101 rfl (rd_info m) ?_) | (refine wpList_load_want rfl 101 _ rfl (w.heap.size + 1) rfl 101 #[.int .u64 0, .int .u64 0, .int .u64 0, .int .u64 0, .int .u64 0, .int .u64 0, .int .u64 0, .int .u64 0, .int .u64 0, .int .u64 0, .int .u64 0, .int .u64 0, .int .u64 0, .int .u64 0, .int .u64 0, .int .u64 0] (0, 0) _ (hp2_1 w _ _) Tryz.underlying101 rfl zinfo ?_) | fail)
 have rp0 : ((w.alloc (.cells (rd m) 101)).alloc (.cells #[.int .u64 0, .int .u64 0, .int .u64 0, .int .u64 0, .int .u64 0, .int .u64 0, .int .u64 0, .int .u64 0, .int .u64 0, .int .u64 0, .int .u64 0, .int .u64 0, .int .u64 0, .int .u64 0, .int .u64 0, .int .u64 0] 101)).heap[w.heap.size]? = some (.cells (rd m) 101 (0, 0)) := hp2_0 w _ _
 have rp1 : ((w.alloc (.cells (rd m) 101)).alloc (.cells #[.int .u64 0, .int .u64 0, .int .u64 0, .int .u64 0, .int .u64 0, .int .u64 0, .int .u64 0, .int .u64 0, .int .u64 0, .int .u64 0, .int .u64 0, .int .u64 0, .int .u64 0, .int .u64 0, .int .u64 0, .int .u64 0] 101)).heap[w.heap.size + 1]? = some (.cells #[.int .u64 0, .int .u64 0, .int .u64 0, .int .u64 0, .int .u64 0, .int .u64 0, .int .u64 0, .int .u64 0, .int .u64 0, .int .u64 0, .int .u64 0, .int .u64 0, .int .u64 0, .int .u64 0, .int .u64 0, .int .u64 0] 101 (0, 0)) := hp2_1 w _ _
 have hw : Below w.heap.size w ((w.alloc (.cells (rd m) 101)).alloc (.cells #[.int .u64 0, .int .u64 0, .int .u64 0, .int .u64 0, .int .u64 0, .int .u64 0, .int .u64 0, .int .u64 0, .int .u64 0, .int .u64 0, .int .u64 0, .int .u64 0, .int .u64 0, .int .u64 0, .int .u64 0, .int .u64 0] 101)) := (((Below.refl _ _).alloc (Nat.le_refl _) _).alloc (by simp) _)
 generalize ((w.alloc (.cells (rd m) 101)).alloc (.cells #[.int .u64 0, .int .u64 0, .int .u64 0, .int .u64 0, .int .u64 0, .int .u64 0, .int .u64 0, .int .u64 0, .int .u64 0, .int .u64 0, .int .u64 0, .int .u64 0, .int .u64 0, .int .u64 0, .int .u64 0, .int .u64 0] 101)) = w0 at *
 refine (co.at _).mono ?_
 rintro e w2 ⟨rfl, hb⟩
 replace rp0 := keep hb rp0
 replace rp1 := keep hb rp1
 replace hw := Below.after hw hb
 clear hb
 go_wp2_with (first | (refine wpList_store_row rfl 101 _ _ rfl (w2.heap.size) (rd 1) rfl rfl 101 #[.int .u64 0, .int .u64 0, .int .u64 0, .int .u64 0, .int .u64 0, .int .u64 0, .int .u64 0, .int .u64 0, .int .u64 0, .int .u64 0, .int .u64 0, .int .u64 0, .int .u64 0, .int .u64 0, .int .u64 0, .int .u64 0] (hp1_0 w2 _) (rd_info 1) rfl (rd_one 1) ?_; rw [setRow_alloc_new _ _ _ _ _ _ (by simp)]) | fail | fail)
 have rl5 : (w2.alloc (.cells (rd 1) 101)).heap[w2.heap.size]? = some (.cells (rd 1) 101 (0, 0)) := hp1_0 w2 _
 have hb : Below w2.heap.size w2 (w2.alloc (.cells (rd 1) 101)) := ((Below.refl _ _).alloc (Nat.le_refl _) _)
 generalize (w2.alloc (.cells (rd 1) 101)) = wa at *
 have yg5_0 := lt_of_row rp0
 have yg5_1 := lt_of_row rp1
 have yg5 := hw.size
 replace rp0 := keep hb rp0
 replace rp1 := keep hb rp1
 replace hw := Below.after hw hb
 clear hb
 generalize w2.heap.size = g5 at *
 clear w2
 go_loopw [6] (fun i wr => ∃ k : Nat, k ≤ len ∧ i = .int .i64 ((len : Int) - 1 - k) ∧ wr.heap[w.heap.size]? = some (.cells (rd m) 101 (0, 0)) ∧ wr.heap[w.heap.size + 1]? = some (.cells #[.int .u64 0, .int .u64 0, .int .u64 0, .int .u64 0, .int .u64 0, .int .u64 0, .int .u64 0, .int .u64 0, .int .u64 0, .int .u64 0, .int .u64 0, .int .u64 0, .int .u64 0, .int .u64 0, .int .u64 0, .int .u64 0] 101 (0, 0)) ∧ wr.heap[g5]? = some (.cells (rd (m ^ topv bs k % prm)) 101 (0, 0)) ∧ Below w.heap.size w wr) (fun i _ => (intOf i + 1).toNat)
 case atStart => exact ⟨0, by omega, by go_num, rp0, rp1, by rw [topv_zero, Int.pow_zero, show (1 : Int) % prm = 1 by decide]; exact rl5, hw⟩
 case round =>
   clear rp0 rp1 rl5 hw
   obtain ⟨k, hk, rfl, rp0, rp1, rl5, hw⟩ := hrel
   by_cases hlt : k < len
   · have hi : (len : Int) - 1 - k = ((len - 1 - k : Nat) : Int) := by omega
     rw [hi]
     obtain ⟨b, off, rfl, hb1, hb2⟩ := hc (len - 1 - k) (by omega)
     replace hb2 := (hw.cell hb1).trans hb2
     have hbat := bat_bd hz (k := k) (by omega)
     have htop := topv_succ (bs := bs) (k := k) (by omega)
     rw [show bs.getD (len - 1 - k) 0 = bat bs k by unfold bat; rw [hlen]] at hb2
     generalize bat bs k = z at *
     generalize topv bs k = E at *
     go_wp2
     go_loopw [7, 8] (fun x i wv => ∃ j : Nat, j ≤ 8 ∧ i = .int .i64 j ∧ x = .int .u8 (z * 2 ^ j % 256) ∧ wv.heap[w.heap.size]? = some (.cells (rd m) 101 (0, 0)) ∧ wv.heap[w.heap.size + 1]? = some (.cells #[.int .u64 0, .int .u64 0, .int .u64 0, .int .u64 0, .int .u64 0, .int .u64 0, .int .u64 0, .int .u64 0, .int .u64 0, .int .u64 0, .int .u64 0, .int .u64 0, .int .u64 0, .int .u64 0, .int .u64 0, .int .u64 0] 101 (0, 0)) ∧ wv.heap[g5]? = some (.cells (rd (m ^ (E * 2 ^ j + z.toNat / 2 ^ (8 - j)) % prm)) 101 (0, 0)) ∧ Below w.heap.size w wv) (fun _ i _ => 8 - (intOf i).toNat)
     case atStart =>
       refine ⟨0, by omega, rfl, ?_, rp0, rp1, ?_, hw⟩
       · rw [Int.pow_zero, Int.mul_one, Int.emod_eq_of_lt hbat.1 hbat.2]
       · rw [show E * 2 ^ 0 + z.toNat / 2 ^ (8 - 0) = E by omega]; exact rl5
     case round =>
       clear rp0 rp1 rl5 hw hb2
       obtain ⟨j, hj, rfl, rfl, rp0, rp1, rl5, hw⟩ := hrel
       by_cases hlj : j < 8
       · have hdj : decide ((j : Int) < 8) = true := by simp; omega
         obtain ⟨hbit, hnext, hhalf, h7⟩ := bit8 z j hbat.1 hbat.2 hlj
         have cs := r_square (inP_mod (m ^ (E * 2 ^ j + z.toNat / 2 ^ (8 - j))))
         rw [sq_pow] at cs
         have cm := r_mul (inP_mod (m ^ (E * 2 ^ j + z.toNat / 2 ^ (8 - j) + (E * 2 ^ j + z.toNat / 2 ^ (8 - j))))) h
         rw [mul_pow1] at cm
         have h2 : E * 2 ^ (j + 1) = E * 2 ^ j + E * 2 ^ j := by rw [Nat.pow_succ, ← Nat.mul_assoc]; omega
         have hst : E * 2 ^ (j + 1) + z.toNat / 2 ^ (8 - (j + 1)) = if z.toNat / 2 ^ (7 - j) % 2 = 1 then E * 2 ^ j + z.toNat / 2 ^ (8 - j) + (E * 2 ^ j + z.toNat / 2 ^ (8 - j)) + 1 else E * 2 ^ j + z.toNat / 2 ^ (8 - j) + (E * 2 ^ j + z.toNat / 2 ^ (8 - j)) := by
           rw [h7, h2, ← hhalf]
           split <;> omega
         have hx0 : 0 ≤ z * 2 ^ j % 256 ∧ z * 2 ^ j % 256 < 256 := by omega
         generalize he2 : E * 2 ^ (j + 1) + z.toNat / 2 ^ (8 - (j + 1)) = e2 at *
         generalize E * 2 ^ j + z.toNat / 2 ^ (8 - j) = e1 at *
         generalize hx1 : z * 2 ^ (j + 1) % 256 = x1 at *
         generalize z * 2 ^ j % 256 = x0 at *
         go_wp2_with (first | (refine wpList_load_want rfl 101 _ rfl (g5) rfl 101 (rd (m ^ e1 % prm)) (0, 0) _ rl5 Tryz.underlying101 rfl (rd_info _) ?_) | fail)
         refine (cs.at _).mono ?_
         rintro e w1 ⟨rfl, hb⟩
         replace rp0 := keep hb rp0
         replace rp1 := keep hb rp1
         replace rl5 := keep hb rl5
         replace hw := Below.after hw hb
         clear hb
         by_cases hge : 128 ≤ x0
         · have hg : decide (128 ≤ x0) = true := decide_eq_true hge
           rw [if_pos (hbit.1 hge)] at hst
           go_wp2_with (first | (refine wpList_store_row rfl 101 _ _ rfl (g5) (rd (m ^ (e1 + e1) % prm)) rfl rfl 101 _ rl5 (rd_info _) rfl (rd_one _) ?_) | (refine wpList_load_want rfl 101 _ rfl (g5) rfl 101 (rd (m ^ (e1 + e1) % prm)) (0, 0) _ (setRow_heap w1 g5 _ (rd (m ^ (e1 + e1) % prm)) _ _ rl5) Tryz.underlying101 rfl (rd_info _) ?_) | (refine wpList_load_want rfl 101 _ rfl (w.heap.size) rfl 101 (rd m) (0, 0) _ ((setRow_other w1 g5 (w.heap.size) (rd (m ^ (e1 + e1) % prm)) (by omega)).trans rp0) Tryz.underlying101 rfl (rd_info _) ?_) | fail)
           replace rp0 := (setRow_other w1 g5 (w.heap.size) (rd (m ^ (e1 + e1) % prm)) (by omega)).trans rp0
           replace rp1 := (setRow_other w1 g5 (w.heap.size + 1) (rd (m ^ (e1 + e1) % prm)) (by omega)).trans rp1
           replace rl5 := setRow_heap w1 g5 _ (rd (m ^ (e1 + e1) % prm)) _ _ rl5
           replace hw := below_setRow hw (show w.heap.size ≤ g5 by omega) (rd (m ^ (e1 + e1) % prm))
           generalize w1.setRow g5 (rd (m ^ (e1 + e1) % prm)) = w2 at *
           refine (cm.at _).mono ?_
           rintro e w3 ⟨rfl, hb⟩
           replace rp0 := keep hb rp0
           replace rp1 := keep hb rp1
           replace rl5 := keep hb rl5
           replace hw := Below.after hw hb
           clear hb
           go_wp2_with (first | (refine wpList_store_row rfl 101 _ _ rfl (g5) (rd (m ^ (e1 + e1 + 1) % prm)) rfl rfl 101 _ rl5 (rd_info _) rfl (rd_one _) ?_) | fail)
           replace rp0 := (setRow_other w3 g5 (w.heap.size) (rd (m ^ (e1 + e1 + 1) % prm)) (by omega)).trans rp0
           replace rp1 := (setRow_other w3 g5 (w.heap.size + 1) (rd (m ^ (e1 + e1 + 1) % prm)) (by omega)).trans rp1
           replace rl5 := setRow_heap w3 g5 _ (rd (m ^ (e1 + e1 + 1) % prm)) _ _ rl5
           replace hw := below_setRow hw (show w.heap.size ≤ g5 by omega) (rd (m ^ (e1 + e1 + 1) % prm))
           generalize w3.setRow g5 (rd (m ^ (e1 + e1 + 1) % prm)) = w4 at *
           go_roundw
           case rel => exact ⟨j + 1, by omega, by go_num, by rw [hx1, ← hnext], rp0, rp1, by rw [he2, hst]; exact rl5, hw⟩
           case measure => simp [intOf]; omega
         · have hg : decide (128 ≤ x0) = false := decide_eq_false hge
           rw [if_neg (fun q => hge (hbit.2 q))] at hst
           go_wp2_with (first | (refine wpList_store_row rfl 101 _ _ rfl (g5) (rd (m ^ (e1 + e1) % prm)) rfl rfl 101 _ rl5 (rd_info _) rfl (rd_one _) ?_) | fail)
           replace rp0 := (setRow_other w1 g5 (w.heap.size) (rd (m ^ (e1 + e1) % prm)) (by omega)).trans rp0
           replace rp1 := (setRow_other w1 g5 (w.heap.size + 1) (rd (m ^ (e1 + e1) % prm)) (by omega)).trans rp1
           replace rl5 := setRow_heap w1 g5 _ (rd (m ^ (e1 + e1) % prm)) _ _ rl5
           replace hw := below_setRow hw (show w.heap.size ≤ g5 by omega) (rd (m ^ (e1 + e1) % prm))
           generalize w1.setRow g5 (rd (m ^ (e1 + e1) % prm)) = w2 at *
           go_roundw
           case rel => exact ⟨j + 1, by omega, by go_num, by rw [hx1, ← hnext], rp0, rp1, by rw [he2, hst]; exact rl5, hw⟩
           case measure => simp [intOf]; omega
       · obtain rfl : j = 8 := by omega
         have hdj : decide ((8 : Int) < 8) = false := by decide
         go_wp2
         go_roundw
         case rel => exact ⟨k + 1, by omega, by go_num, rp0, rp1, by rw [htop, show E * 256 + z.toNat = E * 2 ^ 8 + z.toNat / 2 ^ (8 - 8) by omega]; exact rl5, hw⟩
         case measure => simp [intOf]
   · obtain rfl : k = len := by omega
     have hi : (k : Int) - 1 - k = -1 := by omega
     rw [hi]
     go_wp2_with (first | (refine wpList_load_want rfl 101 _ rfl (g5) rfl 101 (rd (m ^ topv bs k % prm)) (0, 0) _ rl5 Tryz.underlying101 rfl (rd_info _) ?_) | (refine wpList_store_row rfl 101 _ _ rfl (w.heap.size + 1) (rd (m ^ topv bs k % prm)) rfl rfl 101 _ rp1 (rd_info _) rfl (rd_one _) ?_) | fail)
     rw [hall] at *
     exact bodyPost_ret (v := .agg (rd (m ^ bval bs % prm))) (results_cell_row Tryz.results83 _ _ (w.heap.size + 1) _ (rd (m ^ bval bs % prm)) _ _ rfl (setRow_heap _ _ _ _ _ _ rp1) Tryz.underlying101 rfl (rd_info _)) rfl ⟨rfl, below_setRow hw (by omega) _⟩
end Go.Proofs.YtgbkbcgjagcgbaaGreatDoor.Lo
