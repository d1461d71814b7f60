import Derived.Test.YtleeadbceljfbaaGreatDoorProg
import Derived.WalkKit
import Derived.WalkSpells
import Derived.WalkLawsBesides
import Derived.Lib.QuietBelow
import Derived.Laws.BitsAllLaws
import Derived.BigQuiet
import Derived.WalkMore
import Derived.Test.YtleeadbceljfbaaGreatDoorKa
import Derived.Test.YtleeadbceljfbaaGreatDoorQd2
namespace Go.Proofs.YtleeadbceljfbaaGreatDoor
set_option maxRecDepth 100000
open Go Go.RowKit Go.Sort
attribute [local go_sem] setCell_drewN alloc_drewN

/-- The number that k bytes say, the least first. -/
def cnk (b : List B) : Nat → Nat
  | 0 => 0
  | k + 1 => cnk b k + (gb b k).toNat * 256 ^ k
def cnt (b : List B) : Nat := cnk b 4
theorem cnk_lt (b : List B) : ∀ k, cnk b k < 256 ^ k
  | 0 => by simp [cnk]
  | k + 1 => by
    have h := cnk_lt b k
    have h2 := (gb b k).isLt
    have h3 : (gb b k).toNat * 256 ^ k ≤ 255 * 256 ^ k := Nat.mul_le_mul_right _ (by omega)
    rw [cnk, Nat.pow_succ]
    omega
theorem pow_256 (k : Nat) : 256 ^ k = 2 ^ (8 * k) := by rw [Nat.pow_mul]
theorem cnk_or (b : List B) (k : Nat) : cnk b k ||| ((gb b k).toNat * 256 ^ k) = cnk b (k + 1) := by
  have h := Nat.shiftLeft_add_eq_or_of_lt (i := 8 * k) (b := cnk b k) (by rw [← pow_256]; exact cnk_lt b k) (gb b k).toNat
  rw [Nat.shiftLeft_eq, ← pow_256] at h
  rw [Nat.or_comm, ← h, cnk, Nat.add_comm]
theorem cnk_step (d : List B) (k : Nat) (hk : k < 4) : bits .or .u32 (cnk d k : Int) (bv (gb d k) % 4294967296 * 2 ^ (8 * k) % 4294967296) = (cnk d (k + 1) : Int) := by
  have h1 := cnk_lt d k
  have h2 := cnk_lt d (k + 1)
  have h3 := (gb d k).isLt
  have hp : 256 ^ (k + 1) ≤ 256 ^ 4 := Nat.pow_le_pow_right (by decide) (by omega)
  have hp2 : (256 : Nat) ^ 4 = 4294967296 := by decide
  have h4 : (gb d k).toNat * 256 ^ k < 4294967296 := by
    have h5 : (gb d k).toNat * 256 ^ k ≤ 255 * 256 ^ k := Nat.mul_le_mul_right _ (by omega)
    rw [Nat.pow_succ] at hp
    have h6 := Nat.pow_pos (n := k) (show 0 < 256 by decide)
    omega
  have h7 : cnk d k < 4294967296 := by
    have := Nat.pow_lt_pow_right (show 1 < 256 by decide) hk
    omega
  have e1 : bv (gb d k) % 4294967296 * 2 ^ (8 * k) % 4294967296 = (((gb d k).toNat * 256 ^ k : Nat) : Int) := by
    unfold bv
    rw [show (((gb d k).toNat : Nat) : Int) % 4294967296 = (((gb d k).toNat : Nat) : Int) by omega, pow_256, show ((2 : Int) ^ (8 * k)) = ((2 ^ (8 * k) : Nat) : Int) by rw [Int.natCast_pow]; rfl, ← Int.natCast_mul]
    rw [pow_256] at h4
    exact Int.emod_eq_of_lt (by omega) (by omega)
  rw [e1, ← cnk_or]
  exact u32_or_nat _ _ h7 h4
set_option maxRecDepth 100000 in
set_option maxHeartbeats 4000000 in
theorem a_countIn (d : List B) (w : World) (dv : Value) (hD : BysB w dv d) : Calls Tryz.prog 32 #[dv] w fun e w' => e = .returned (.tuple #[.int .i64 (if d.length < 4 then 0 else (cnt d : Int)), .bool (!decide (d.length < 4) && decide (cnt d ≤ 1048576))]) ∧ Below w.heap.size w w' := by
  by_cases h4 : d.length < 4
  · obtain ⟨ao, cap, rfl⟩ := hD.form
    have hd : decide ((d.length : Int) < 4) = true := by simp; omega
    simp only [h4]
    go_enter Tryz.func32, Tryz.ntmps32
    go_wp2
    go_ret2
    exact ⟨rfl, Below.refl _ _⟩
  · obtain ⟨ao, cap, rfl⟩ := hD.form
    have hcell := fun j (hj : j < 4) => hD.cellAt (j := j) (show j < d.length by omega)
    have hd : decide ((d.length : Int) < 4) = false := by simp; omega
    simp only [h4]
    go_enter Tryz.func32, Tryz.ntmps32
    go_wp2
    go_loopw [4, 9, 5] (fun n i j wr => ∃ k : Nat, k ≤ 4 ∧ i = .int .i64 k ∧ n = .int .u32 (cnk d k : Int) ∧ wr = w) (fun _ i _ _ => 4 - (intOf i).toNat)
    case atStart => exact ⟨0, by omega, rfl, rfl, rfl⟩
    case round =>
      obtain ⟨k, hk, rfl, rfl, rfl⟩ := hrel
      by_cases hlt : k < 4
      · have hd : decide ((k : Int) < 4) = true := by simp; omega
        obtain ⟨b, off, rfl, hb, hc⟩ := hcell k hlt
        have ho := cnk_step d k hlt
        go_wp2
        refine ⟨⟨k + 1, by omega, by go_num, rfl, trivial⟩, ?_⟩
        simp [intOf]; omega
      · obtain rfl : k = 4 := by omega
        have hd : decide ((4 : Int) < 4) = false := by decide
        have hc4 := cnk_lt d 4
        have hq : decide ((cnk d 4 : Int) ≤ 1048576) = decide (cnk d 4 ≤ 1048576) := by simp; omega
        go_wp2
        go_ret2
        exact ⟨rfl, Below.refl _ _⟩
/-- Are all of them 0? -/
def azr (d : List B) : Bool := d.all (· == 0#8)
theorem azr_drop (d : List B) (k : Nat) (h : k < d.length) : azr (d.drop k) = ((gb d k == 0#8) && azr (d.drop (k + 1))) := by
  rw [drop_at d k h]; rfl
theorem bv_zero (x : B) : (bv x == 0) = (x == 0#8) := by
  have h : bv x = 0 ↔ x = 0#8 := ⟨fun e => bv_inj.1 (e.trans (show (0 : Int) = bv 0#8 from rfl)), fun e => by rw [e]; rfl⟩
  rw [Bool.eq_iff_iff, beq_iff_eq, beq_iff_eq]
  exact h
set_option maxRecDepth 100000 in
set_option maxHeartbeats 4000000 in
theorem a_allZero (d : List B) (w : World) (dv : Value) (hD : BysB w dv d) : Calls Tryz.prog 33 #[dv] w fun e w' => e = .returned (.bool (azr d)) ∧ Below w.heap.size w w' := by
  obtain ⟨ao, cap, rfl⟩ := hD.form
  have hcell := fun j (hj : j < d.length) => hD.cellAt (j := j) hj
  have hdl := hD.2.1
  go_enter Tryz.func33, Tryz.ntmps33
  go_wp2
  go_loopw [7, 4] (fun i x wr => ∃ k : Nat, k ≤ d.length ∧ i = .int .i64 k ∧ azr d = azr (d.drop k) ∧ wr = w) (fun i _ _ => d.length - (intOf i).toNat)
  case atStart => exact ⟨0, by omega, rfl, rfl, rfl⟩
  case round =>
    obtain ⟨k, hk, rfl, hz, rfl⟩ := hrel
    by_cases hlt : k < d.length
    · have hd : decide ((k : Int) < (d.length : Int)) = true := by simp; omega
      obtain ⟨b, off, rfl, hb, hc⟩ := hcell k hlt
      rw [azr_drop d k hlt, ← bv_zero] at hz
      generalize bv (gb d k) = x at *
      rcases hx : (x == 0)
      · rw [hx, Bool.false_and] at hz
        replace hz := hide hz
        go_wp2
        go_ret
        exact ⟨by rw [hz.out]; rfl, Below.refl _ _⟩
      · rw [hx, Bool.true_and] at hz
        replace hz := hide hz
        go_wp2
        refine ⟨⟨k + 1, by omega, by go_num, hz.out, trivial⟩, ?_⟩
        simp [intOf]; omega
    · obtain rfl : k = d.length := by omega
      have hd : decide ((d.length : Int) < (d.length : Int)) = false := by simp
      rw [List.drop_length] at hz
      replace hz := hide hz
      go_wp2
      go_ret
      exact ⟨by rw [hz.out]; rfl, Below.refl _ _⟩
/-- Is that a body, of a version that is known10? -/
def upo (v : Nat) (b : List B) : Bool := !decide (b.length < 4) && decide (cnt b ≤ 1048576) && (bkd (dg v) (4 + cnt b) == b.length) && azr (b.drop (4 + cnt b))
def upe (v : Nat) (b : List B) : Int := if known10 v then (if upo v b then 0 else 101) else 100
def upr (v : Nat) (b : List B) : List B := if known10 v && upo v b then (b.drop 4).take (cnt b) else []
end Go.Proofs.YtleeadbceljfbaaGreatDoor

namespace Go.Proofs.YtleeadbceljfbaaGreatDoor
set_option maxRecDepth 100000
open Go Go.RowKit Go.Sort
attribute [local go_sem] setCell_drewN alloc_drewN

/-- A part of a slice. -/
def slc10 (ao : Option Addr) (cap m n : Nat) : Value := .slice (if cap = m then ao else ao.map (·.add (m * 1))) (n - m) (cap - m)
theorem sl_mid10 (ao : Option Addr) (len cap m n : Nat) (h1 : m ≤ n) (h2 : n ≤ cap) (W : World) : (Instr.sliceAt 28 (.slice ao len cap) (some (.int .i64 (m : Int))) (some (.int .i64 (n : Int))) none).run Tryz.prog W = .ok (slc10 ao cap m n) W := by
  rw [run_sliceAt_slice _ _ _ _ _ _ elem810, run_slice_lh W 28 ao len cap elem810 .i64 .i64 _ _ (by omega) (by omega) (by omega), size810]
  show Result.ok (sliced _ _ _ _ 1) W = _
  rw [Int.toNat_natCast, Int.toNat_natCast, sliced]
  rfl
theorem bysB_mid10 {W : World} {ao : Option Addr} {cap m n : Nat} {d : List B} (h : BysB W (.slice ao d.length cap) d) (hmn : m ≤ n) (hn : n ≤ d.length) (hc : d.length ≤ cap) : BysB W (slc10 ao cap m n) ((d.drop m).take (n - m)) := by
  obtain ⟨⟨ao', c', e, hl, hce, hz⟩, h2, h3⟩ := h
  rw [bl_len] at e
  cases e
  have hln : (bl ((d.drop m).take (n - m))).length = n - m := by rw [bl_len, List.length_take, List.length_drop]; omega
  rw [bl_len] at hl hce
  refine ⟨⟨if cap = m then ao else ao.map (·.add (m * 1)), cap - m, by rw [hln]; rfl, by rw [hln]; omega, fun j hj => ?_, bl_bnd _⟩, by rw [List.length_take, List.length_drop]; omega, fun a l c hv ha => ?_⟩
  · rw [hln] at hj
    obtain ⟨b2, off2, e2, hb, hcell⟩ := hce (m + j) (by omega)
    subst e2
    refine ⟨b2, off2 + m, ?_, hb, ?_⟩
    · rw [if_neg (by omega), Option.map_some, addr_add, Nat.mul_one]
    · rw [show off2 + m + j = off2 + (m + j) by omega, hcell, bl_get, bl_get, List.getD_eq_getElem?_getD, List.getD_eq_getElem?_getD, List.getElem?_take_of_lt hj, List.getElem?_drop]
  · unfold slc10 at hv
    injection hv with q1 q2 q3
    subst q3
    subst q1
    cases ao with
    | none =>
      have := h3 none _ _ rfl rfl
      omega
    | some x =>
      split at ha
      · cases ha
      · cases ha
theorem slc_form10 (ao : Option Addr) (cap m n : Nat) : ∃ u c, slc10 ao cap m n = .slice u (n - m) c := ⟨_, _, rfl⟩
/-- The rest of a slice. -/
theorem sl_rest (ao : Option Addr) (len cap m : Nat) (h : m ≤ len) (W : World) : (Instr.sliceAt 28 (.slice ao len cap) (some (.int .i64 (m : Int))) none none).run Tryz.prog W = .ok (slc10 ao cap m len) W := by
  rw [run_sliceAt_slice _ _ _ _ _ _ elem810, run_slice_l W 28 ao len cap elem810 .i64 _ (by omega) (by omega), size810]
  show Result.ok (sliced _ _ _ _ 1) W = _
  rw [Int.toNat_natCast, sliced]
  rfl
set_option maxRecDepth 100000 in
set_option maxHeartbeats 4000000 in
theorem a_Unpad (ver : Int) (v : Nat) (hv : IntKind.wrap .u64 ver = (v : Int)) (hv2 : v < 18446744073709551616) (d : List B) (w : World) (dv : Value) (hD : BysB w dv d) (hcap : ∀ a l c, dv = .slice a l c → l ≤ c) : Calls Tryz.prog 18 #[.int .i64 ver, dv] w fun e w' => ∃ u, e = .returned (.tuple #[u, .int .i64 (upe v d)]) ∧ Own w' w.heap.size u (upr v d) ∧ Below w.heap.size w w' := by
  have c1 := a_rulesOf v hv2 w
  obtain ⟨ao, cap, rfl⟩ := hD.form
  replace hcap := hcap _ _ _ rfl
  rcases hk : known10 v
  · rw [hk, bkf_not hk] at c1
    have e1 : upe v d = 100 := by unfold upe; simp [hk]
    have e2 : upr v d = [] := by unfold upr; simp [hk]
    rw [e1, e2]
    clear e1 e2 hk
    go_enter Tryz.func18, Tryz.ntmps18
    go_wp2_with (first | (simp only [hv]) | fail)
    refine c1.mono ?_
    rintro e_ w1 ⟨rfl, hb⟩
    clear c1
    have r0 := hp1_0 w1 (.cells #[Value.int IntKind.u64 0, Value.nilFunc] 69)
    have hb2 := hb.alloc (by have := hb.size; omega) (.cells #[Value.int IntKind.u64 0, Value.nilFunc] 69)
    have hb3 := below_setRow (g := w1.heap.size) hb2 (by have := hb.size; omega) #[Value.int IntKind.u64 (v : Int), Value.nilFunc]
    clear hb hb2
    go_wp2_with (first | (refine wpList_store_row rfl 69 _ _ rfl w1.heap.size #[.int .u64 (v : Int), Value.nilFunc] rfl rfl 69 _ r0 infoR rfl (oneN _) ?_) | fail)
    go_ret2
    exact ⟨_, rfl, own_none10 _ _, hb3⟩
  · rw [hk, bkf_known hk] at c1
    have hDh := hide (fun V (h : Below w.heap.size w V) => hD.keep h)
    have c2 := hide (fun (n : Nat) (hn : n ≤ 1152921504606846000) => a_bucketOf v n hk hn)
    rw [bkf_known hk] at c2
    have cC := hide (a_countIn d)
    have hdl := hD.2.1
    obtain ⟨U, hU⟩ : ∃ U, upe v d = U := ⟨_, rfl⟩
    obtain ⟨R, hR⟩ : ∃ R, upr v d = R := ⟨_, rfl⟩
    rw [hU, hR]
    have eU : Hid (U = if upo v d then 0 else 101) := hide (by rw [← hU, upe, hk, if_pos rfl])
    have eR : Hid (R = if upo v d then (d.drop 4).take (cnt d) else []) := hide (by rw [← hR, upr, hk, Bool.true_and])
    clear hU hR hk
    go_enter Tryz.func18, Tryz.ntmps18
    go_wp2_with (first | (simp only [hv]) | fail)
    refine c1.mono ?_
    rintro e_ w1 ⟨rfl, hb⟩
    clear c1 hD
    have r0 := hp1_0 w1 (.cells #[Value.int IntKind.u64 0, Value.nilFunc] 69)
    have hb2 := hb.alloc (by have := hb.size; omega) (.cells #[Value.int IntKind.u64 0, Value.nilFunc] 69)
    have hw := below_setRow (g := w1.heap.size) hb2 (by have := hb.size; omega) #[Value.int IntKind.u64 (v : Int), Value.func (Fn.func (bkn v)) #[] #[]]
    have r1 := setRow_heap _ w1.heap.size _ (#[.int .u64 (v : Int), Value.func (Fn.func (bkn v)) #[] #[]]) _ _ r0
    have szb := hb.size
    clear hb hb2
    generalize bkn v = f at *
    go_wp2_with (first | (refine wpList_store_row rfl 69 _ _ rfl w1.heap.size #[.int .u64 (v : Int), Value.func (Fn.func f) #[] #[]] rfl rfl 69 _ r0 infoR rfl (oneF _ _) ?_) | fail)
    refine (cC.out _ _ (hDh.out _ hw)).mono ?_
    rintro e_ w2 ⟨rfl, hb⟩
    replace r1 := keep hb r1
    replace hw := Below.after hw hb
    clear hb cC r0
    by_cases hok : (!decide (d.length < 4) && decide (cnt d ≤ 1048576)) = true
    · rw [hok]
      have h4 : ¬ d.length < 4 := by intro h; simp [h] at hok
      have hcn : cnt d ≤ 1048576 := by simp [h4] at hok; exact hok
      rw [if_neg h4]
      have cB := c2.out (cnt d) (by omega)
      by_cases hbk : bkd (dg v) (4 + cnt d) = d.length
      · rw [hbk] at cB
        have hle : 4 + cnt d ≤ d.length := by have := bkd_ge (dg v) (4 + cnt d) (dg_pos v) (dg_le v); omega
        have hu : upo v d = azr (d.drop (4 + cnt d)) := by
          unfold upo
          rw [hok, hbk, beq_self_eq_true, Bool.true_and, Bool.true_and]
        rw [hu] at eU eR
        have s1 := sl_mid10 ao d.length cap 4 (4 + cnt d) (by omega) (by omega)
        have s2 := sl_rest ao d.length cap (4 + cnt d) hle
        have b1 := hide (fun V (h : Below w.heap.size w V) => bysB_mid10 (hDh.out V h) (show 4 ≤ 4 + cnt d by omega) hle hcap)
        have b2 := hide (fun V (h : Below w.heap.size w V) => bysB_mid10 (hDh.out V h) hle (Nat.le_refl _) hcap)
        rw [show (d.drop 4).take (4 + cnt d - 4) = (d.drop 4).take (cnt d) by congr 1; omega] at b1
        rw [List.take_of_length_le (by rw [List.length_drop]; exact Nat.le_refl _)] at b2
        obtain ⟨o1, k1, e1⟩ := slc_form10 ao cap 4 (4 + cnt d)
        obtain ⟨o2, k2, e2⟩ := slc_form10 ao cap (4 + cnt d) d.length
        rw [e1] at s1 b1
        rw [e2] at s2 b2
        rw [show ((4 + cnt d : Nat) : Int) = 4 + (cnt d : Int) by omega] at s1 s2
        rw [show ((4 : Nat) : Int) = 4 from rfl] at s1
        obtain ⟨Z, hZ⟩ : ∃ z, azr (d.drop (4 + cnt d)) = z := ⟨_, rfl⟩
        have cZ := hide (a_allZero (d.drop (4 + cnt d)))
        rw [hZ] at eU eR cZ
        have cL := hide (a_clone ((d.drop 4).take (cnt d)))
        generalize hP : (d.drop 4).take (cnt d) = P at *
        generalize hT : d.drop (4 + cnt d) = T at *
        clear hZ e1 e2 hP hT hu
        generalize hcc : cnt d = cc at *
        clear hcc hbk
        generalize 4 + cc - 4 = n1 at *
        generalize d.length - (4 + cc) = n2 at *
        go_wp2_with (first | (refine wpList_load_want rfl 69 _ rfl w1.heap.size rfl 69 #[.int .u64 (v : Int), Value.func (Fn.func f) #[] #[]] (0, 0) _ r1 Tryz.underlying69 rfl infoR ?_) | fail)
        refine (cB.at _).mono ?_
        rintro e_ w3 ⟨rfl, hb⟩
        replace hw := Below.after hw hb
        clear hb cB r1
        go_wp2_with (fail)
        have hsn : ∀ p : Regrown, Below w.heap.size w (grow (redrawn w3 p.d) p.os) := fun p => Below.after hw (below_regrown w3 p.d p.os)
        refine wp_region_quiet_below (by kernel_rfl) (by kernel_rfl) ?_
        iterate 10 go_big_quiet_step (fail)
        refine wpQuiet_nil ?_
        rintro _ ⟨p, rfl⟩
        replace hw := hsn p
        clear hsn
        generalize grow (redrawn w3 p.d) p.os = w4 at *
        go_wp2_with (fail)
        refine (cZ.out _ _ (b2.out _ hw)).mono ?_
        rintro e_ w5 ⟨rfl, hb⟩
        replace hw := Below.after hw hb
        clear hb cZ s1 s2
        cases Z
        · rw [if_neg Bool.false_ne_true] at eU eR
          go_wp2
          go_ret2
          refine ⟨_, by rw [eU.out]; rfl, ?_, hw⟩
          rw [eR.out]
          exact own_none10 _ _
        · rw [if_pos rfl] at eU eR
          go_wp2_with (fail)
          refine (cL.out _ _ (b1.out _ hw)).mono ?_
          rintro e_ w6 ⟨u, rfl, hO, hb⟩
          have hO' := own_down hO hw.size
          replace hw := Below.after hw hb
          clear hb cL hO
          obtain ⟨ua, uc, rfl⟩ := slen_own hO'
          go_wp2
          go_ret2
          refine ⟨_, by rw [eU.out]; rfl, ?_, hw⟩
          rw [eR.out]
          exact hO'
      · have hu : upo v d = false := by
          unfold upo
          rw [hok, show (bkd (dg v) (4 + cnt d) == d.length) = false by simpa using hbk, Bool.true_and, Bool.false_and]
        rw [hu, if_neg Bool.false_ne_true] at eU eR
        have hne : ((bkd (dg v) (4 + cnt d) : Int) == (d.length : Int)) = false := by
          rw [beq_eq_false_iff_ne]
          omega
        generalize bkd (dg v) (4 + cnt d) = bb at *
        generalize cnt d = cc at *
        go_wp2_with (first | (refine wpList_load_want rfl 69 _ rfl w1.heap.size rfl 69 #[.int .u64 (v : Int), Value.func (Fn.func f) #[] #[]] (0, 0) _ r1 Tryz.underlying69 rfl infoR ?_) | fail)
        refine (cB.at _).mono ?_
        rintro e_ w3 ⟨rfl, hb⟩
        replace hw := Below.after hw hb
        clear hb cB r1
        go_wp2
        go_ret2
        refine ⟨_, by rw [eU.out]; rfl, ?_, hw⟩
        rw [eR.out]
        exact own_none10 _ _
    · have hok' := Bool.eq_false_iff.2 hok
      rw [hok']
      have hu : upo v d = false := by unfold upo; rw [hok', Bool.false_and, Bool.false_and]
      rw [hu, if_neg Bool.false_ne_true] at eU eR
      generalize (if d.length < 4 then (0 : Int) else (cnt d : Int)) = z at *
      go_wp2
      go_ret2
      refine ⟨_, by rw [eU.out]; rfl, ?_, hw⟩
      rw [eR.out]
      exact own_none10 _ _
end Go.Proofs.YtleeadbceljfbaaGreatDoor
