import Derived.Test.YtleeadbceljfbaaGreatDoorProg
import Derived.WalkKit
import Derived.WalkSpells
import Derived.WalkLawsBesides
import Derived.Lib.QuietBelow
import Derived.Laws.BitsAllLaws
import Derived.BigQuiet
import Derived.WalkMore
import Derived.Test.YtleeadbceljfbaaGreatDoorKa
import Derived.Test.YtleeadbceljfbaaGreatDoorQd1
import Derived.Test.YtleeadbceljfbaaGreatDoorQd4
import Derived.Lib.SlBytesConst
namespace Go.Proofs.YtleeadbceljfbaaGreatDoor
set_option maxRecDepth 100000
open Go Go.RowKit Go.Sort
attribute [local go_sem] setCell_drewN alloc_drewN

/-- The first k bytes of a number, the least first; zeros behind. -/
def pdk (l k b : Nat) : List Int := ((List.range k).map fun i => ((l / 256 ^ i % 256 : Nat) : Int)) ++ zr (b - k)
theorem pdk_len (l k b : Nat) (h : k ≤ b) : (pdk l k b).length = b := by simp [pdk, zr_len]; omega
theorem pdk_zero (l b : Nat) : pdk l 0 b = zr b := by simp [pdk]
theorem pdk_set (l k b : Nat) (h : k < b) : (pdk l k b).set k ((l / 256 ^ k % 256 : Nat) : Int) = pdk l (k + 1) b := by
  have e1 : zr (b - k) = 0 :: zr (b - (k + 1)) := by
    rw [show b - k = (b - (k + 1)) + 1 by omega]; rfl
  unfold pdk
  rw [e1, List.set_append_right _ _ (by simp)]
  simp [List.range_succ]
/-- A body: the number in four bytes, the text, zeros. -/
def pd4 (l : Nat) : List B := [BitVec.ofNat 8 l, BitVec.ofNat 8 (l / 256), BitVec.ofNat 8 (l / 65536), BitVec.ofNat 8 (l / 16777216)]
def pdb (b : Nat) (d : List B) : List B := pd4 d.length ++ d ++ List.replicate (b - 4 - d.length) 0#8
theorem pdb_len (b : Nat) (d : List B) (h : 4 + d.length ≤ b) : (pdb b d).length = b := by simp [pdb, pd4]; omega
theorem pdb_bl (b : Nat) (d : List B) : (pdk d.length 4 b).take 4 ++ bl d ++ (pdk d.length 4 b).drop (4 + (bl d).length) = bl (pdb b d) := by
  rw [bl_len, pdb, bl_app, bl_app, bl_zr, ← List.drop_drop]
  have e0 : pdk d.length 4 b = bl (pd4 d.length) ++ zr (b - 4) := by
    unfold pdk
    congr 1
    simp [List.range_succ, bl, bv, pd4]
  have e1 : (bl (pd4 d.length)).length = 4 := rfl
  rw [e0, List.take_left' e1, List.drop_left' e1, zr_drop]
/-- What Pad answers. -/
def pdr (v : Nat) (d : List B) : List B := if bke v (d.length : Int) = 0 then pdb (bkd (dg v) (4 + d.length)) d else []
theorem own_whole {W : World} {g base : Nat} {d : List B} (hg : W.heap[g]? = some (.cells (irow .u8 (bl d)) 5 (0, 0))) (hb : base ≤ g) (hl : d.length ≤ 281474976710656) : Own W base (.slice (some ⟨g, 0, none⟩) d.length d.length) d :=
  ⟨by simp [bl], .inr ⟨g, d.length, _, rfl, hb, hg, Nat.le_refl _, by unfold maxLen; omega, by simp [irow, bl], by simp only [irow, bl, Nat.mul_one]; exact List.take_of_length_le (by simp)⟩⟩
theorem own_none10 (W : World) (b : Nat) : Own W b (.slice none 0 0) [] := ⟨rfl, .inl ⟨rfl, rfl⟩⟩
theorem tmod_nat (q : Nat) : ((q : Nat) : Int).tmod 256 = ((q % 256 : Nat) : Int) := by rw [Int.tmod_eq_emod_of_nonneg (by omega)]; omega
theorem tdiv_nat (q : Nat) : ((q : Nat) : Int).tdiv 256 = ((q / 256 : Nat) : Int) := by rw [Int.tdiv_eq_ediv_of_nonneg (by omega)]; omega
theorem shr_nat (l k : Nat) (hk : k ≤ 3) : (l : Int) / 2 ^ (8 * k) % 256 = ((l / 256 ^ k % 256 : Nat) : Int) := by
  rcases (by omega : k = 0 ∨ k = 1 ∨ k = 2 ∨ k = 3) with rfl | rfl | rfl | rfl <;> omega
set_option maxRecDepth 100000 in
set_option maxHeartbeats 4000000 in
theorem a_Pad (ver : Int) (v : Nat) (hv : IntKind.wrap .u64 ver = (v : Int)) (hv2 : v < 18446744073709551616) (d : List B) (w : World) (dv : Value) (hD : BysB w dv d) : Calls Tryz.prog 16 #[.int .i64 ver, dv] w fun e w' => ∃ u, e = .returned (.tuple #[u, .int .i64 (bke v (d.length : Int))]) ∧ Own w' w.heap.size u (pdr v d) ∧ Below w.heap.size w w' := by
  have c1 := a_Bucket ver v hv hv2 (d.length : Int)
  obtain ⟨ao, cap, rfl⟩ := hD.form
  by_cases hz : bke v (d.length : Int) = 0
  · obtain ⟨hk, q1, q2⟩ := bke_ok hz
    have hbd := bkd_bd v (d.length : Int) q1 q2
    have e2 : bko v (d.length : Int) = (bkd (dg v) (4 + d.length) : Int) := by unfold bko; simp [hz]
    have e3 : pdr v d = pdb (bkd (dg v) (4 + d.length)) d := by unfold pdr; simp [hz]
    have h64 := Nat.lt_of_lt_of_le (show 4 < 64 by decide) (bkd_64 (dg v) (4 + d.length) (dg_pos v) (dg_le v))
    have hge := bkd_ge (dg v) (4 + d.length) (dg_pos v) (dg_le v)
    rw [Int.toNat_natCast] at hbd
    rw [e2, hz] at c1
    rw [e3, hz]
    generalize bkd (dg v) (4 + d.length) = b at *
    have hDh := hide (fun V (h : Below w.heap.size w V) => hD.keep h)
    clear e2 e3 hz hk hD
    have hpb := pdb_bl b d
    have hpl := pdb_len b d hge
    go_enter Tryz.func16, Tryz.ntmps16
    go_wp2_with (fail)
    refine (c1.at _).mono ?_
    rintro e_ w1 ⟨rfl, hw⟩
    clear c1
    have hmk := make_len b (by omega) w1
    have r0 := hp1_0 w1 (.cells (irow .u8 (zr b)) 5)
    replace r0 : (w1.alloc (.cells (irow .u8 (zr b)) 5)).heap[w1.heap.size]? = some (.cells (irow .u8 (pdk d.length 0 b)) 5 (0, 0)) := by rw [pdk_zero]; exact r0
    have hw0 := hw.size
    replace hw := hw.alloc hw.size (.cells (irow .u8 (zr b)) 5)
    have sz := size_alloc1 w1 (.cells (irow .u8 (zr b)) 5)
    go_wp2
    generalize (w1.alloc (.cells (irow .u8 (zr b)) 5)) = w2 at *
    clear hmk
    go_loopw [22, 9] (fun i j wr => ∃ k : Nat, k ≤ 4 ∧ i = .int .i64 k ∧ wr.heap[w1.heap.size]? = some (.cells (irow .u8 (pdk d.length k b)) 5 (0, 0)) ∧ Below w.heap.size w wr) (fun i _ _ => 4 - (intOf i).toNat)
    case atStart => exact ⟨0, by omega, rfl, r0, hw⟩
    case round =>
      clear r0 hw
      obtain ⟨k, hk, rfl, r0, hw⟩ := hrel
      by_cases hlt : k < 4
      · have hd : decide ((k : Int) < 4) = true := by simp; omega
        have cf := row_frozen r0 k
        have cc := irow_cell r0 (j := k) (by rw [pdk_len _ _ _ (by omega)]; omega)
        have r2 := irow_set r0 k ((d.length / 256 ^ k % 256 : Nat) : Int)
        rw [pdk_set _ _ _ (by omega)] at r2
        have hs := shr_nat d.length k (by omega)
        have hw2 := hw.setCell (show w.heap.size ≤ (⟨w1.heap.size, k, none⟩ : Addr).block from hw0) (.int .u8 ((d.length / 256 ^ k % 256 : Nat) : Int))
        clear r0 hw hpb
        generalize (pdk d.length k b).getD k 0 = z at *
        generalize ((d.length / 256 ^ k % 256 : Nat) : Int) = y at *
        go_wp2
        refine ⟨⟨k + 1, by omega, by go_num, r2, hw2⟩, ?_⟩
        simp [intOf]; omega
      · obtain rfl : k = 4 := by omega
        have hd : decide ((4 : Int) < 4) = false := by decide
        obtain ⟨ao2, s1, s2⟩ := slice_rest w1.heap.size 0 b b 4 (by omega) (by omega)
        rw [s1 h64] at s2
        have s3 := s2 wr
        have hBd := (hDh.out _ hw).1
        have hcp := copy_bys (o := 0 + 4) (dLen := b - 4) (dCap := b - 4) r0 hBd (by rw [bl_len]; omega) (by rw [bl_len, pdk_len _ _ _ (by omega)]; omega)
        rw [Nat.zero_add, hpb] at hcp
        have hgo : goInt (bl d).length = .int .i64 (d.length : Int) := by rw [bl_len]; rfl
        rw [hgo] at hcp
        have r1 := setRow_heap _ w1.heap.size _ (irow .u8 (bl (pdb b d))) _ _ r0
        have hw3 := below_setRow hw hw0 (irow .u8 (bl (pdb b d)))
        clear s1 s2 r0 hpb hBd
        go_wp2
        go_ret2
        refine ⟨_, rfl, ?_, hw3⟩
        have := own_whole r1 hw0 (by omega)
        rw [hpl] at this
        exact this
  · have e2 : bko v (d.length : Int) = 0 := by unfold bko; simp [hz]
    have e3 : pdr v d = [] := by unfold pdr; simp [hz]
    have e4 := ne_dec v (d.length : Int) hz
    rw [e2] at c1
    rw [e3]
    generalize bke v (d.length : Int) = e at *
    clear e2 e3
    go_enter Tryz.func16, Tryz.ntmps16
    go_wp2_with (fail)
    refine (c1.at _).mono ?_
    rintro e_ w1 ⟨rfl, hb⟩
    clear c1
    go_wp2
    go_ret2
    exact ⟨_, rfl, own_none10 _ _, hb⟩
end Go.Proofs.YtleeadbceljfbaaGreatDoor

namespace Go.Proofs.YtleeadbceljfbaaGreatDoor
set_option maxRecDepth 100000
open Go Go.RowKit Go.Sort
attribute [local go_sem] setCell_drewN alloc_drewN

/-- Lists of their own, in rows of blocks that follow one another from lo on. -/
def Owns (W : World) : Nat → List (Value × List B) → Nat → Prop
  | lo, [], hi => lo ≤ hi
  | lo, x :: r, hi => ∃ m, lo ≤ m ∧ Own W lo x.1 x.2 ∧ (∀ k, x.1.ownBlock = some k → k < m) ∧ x.2.length ≤ 140737488350000 ∧ Owns W m r hi
theorem Owns.le {W : World} : ∀ {l : List (Value × List B)} {lo hi : Nat}, Owns W lo l hi → lo ≤ hi
  | [], _, _, h => h
  | _ :: _, _, _, ⟨_, h1, _, _, _, h2⟩ => Nat.le_trans h1 h2.le
theorem Owns.ap {W : World} {base : Nat} : ∀ {l : List (Value × List B)} {lo hi : Nat}, base ≤ lo → Owns W lo l hi → ∃ xs : List (Option Nat × Nat × Nat), xs.map apV = l.map Prod.fst ∧ ApR base W xs (fun _ _ => True) ∧ ApD xs ∧ ∀ (i : Nat) g m c, xs[i]? = some (some g, m, c) → lo ≤ g ∧ g < hi ∧ m ≤ 140737488350000
  | [], _, _, _, _ => ⟨[], rfl, fun j g m c h => by simp at h, fun i j g m n c d h => by simp at h, fun i g m c h => by simp at h⟩
  | x :: r, lo, hi, hb, ⟨k, h1, h2, h3, h4, h5⟩ => by
    obtain ⟨xs, q1, q2, q3, q4⟩ := Owns.ap (Nat.le_trans hb h1) h5
    obtain ⟨y, hy, hyy⟩ := own_ap h2
    have hk := h5.le
    have hb1 : ∀ g m c, y = (some g, m, c) → lo ≤ g ∧ g < k := fun g m c e => ⟨(hyy g m c e).2.1, h3 g (by rw [hy, e]; rfl)⟩
    refine ⟨y :: xs, by rw [List.map_cons, List.map_cons, q1, hy], ?_, ?_, ?_⟩
    · intro j g m c hj
      cases j with
      | zero =>
        have e : y = (some g, m, c) := by simpa using hj
        obtain ⟨e1, e2, e3, e4⟩ := hyy g m c e
        exact ⟨bl x.2, by rw [bl_len, e1], or_lower e4 hb, trivial⟩
      | succ j => exact q2 j g m c (by simpa using hj)
    · intro i j g m n c d hi hj
      cases i with
      | zero =>
        cases j with
        | zero => rfl
        | succ j =>
          have := hb1 g m c (by simpa using hi)
          have := q4 j g n d (by simpa using hj)
          omega
      | succ i =>
        cases j with
        | zero =>
          have := hb1 g n d (by simpa using hj)
          have := q4 i g m c (by simpa using hi)
          omega
        | succ j => rw [q3 i j g m n c d (by simpa using hi) (by simpa using hj)]
    · intro i g m c hi'
      cases i with
      | zero =>
        have e : y = (some g, m, c) := by simpa using hi'
        have := hb1 g m c e
        have := (hyy g m c e).1
        omega
      | succ i =>
        have := q4 i g m c (by simpa using hi')
        omega
theorem Owns.keep {W V : World} : ∀ {l : List (Value × List B)} {lo hi : Nat}, Owns W lo l hi → Below W.heap.size W V → Owns V lo l hi
  | [], _, _, h, _ => h
  | _ :: _, _, _, ⟨m, h1, h2, h3, h4, h5⟩, hb => ⟨m, h1, h2.keep hb, h3, h4, h5.keep hb⟩
theorem Owns.snoc {W : World} {v : Value} {L : List B} : ∀ {l : List (Value × List B)} {lo hi : Nat}, Owns W lo l hi → Own W hi v L → L.length ≤ 140737488350000 → (hz : hi ≤ W.heap.size) → Owns W lo (l ++ [(v, L)]) W.heap.size
  | [], lo, hi, h, hO, hl, hz => ⟨W.heap.size, by have : lo ≤ hi := h; omega, own_down hO h, own_high hO, hl, Nat.le_refl _⟩
  | _ :: r, _, _, ⟨m, h1, h2, h3, h4, h5⟩, hO, hl, hz => ⟨m, h1, h2, h3, h4, h5.snoc hO hl hz⟩
end Go.Proofs.YtleeadbceljfbaaGreatDoor
