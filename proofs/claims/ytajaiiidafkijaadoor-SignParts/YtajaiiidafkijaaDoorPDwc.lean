import Derived.Test.YtajaiiidafkijaaDoorPEc
import Derived.Test.YtajaiiidafkijaaDoorProg
import Derived.WalkKit
import Derived.WalkSpells
import Derived.WalkLawsBesides
import Derived.Lib.QuietBelow
import Derived.BigQuiet
import Derived.Test.YtajaiiidafkijaaDoorPKa
import Derived.Test.YtajaiiidafkijaaDoorPDwf
import Derived.Test.YtajaiiidafkijaaDoorPGs
import Derived.Test.YtajaiiidafkijaaDoorPFc
namespace Go.Proofs.YtajaiiidafkijaaDoor
set_option maxRecDepth 100000
def bp : E1 := ⟨48124660576694895147914813076284018110470804336376098912894897995932653867602, 46316835694926478169428394003475163141307993866256225615783033603165251855960, by decide, by decide, by unfold Zp; decide +kernel⟩
theorem bp_tx : tx bp = 15112221349535400772501151409588531511454012693041857206046113283949847762202 := by decide +kernel
theorem bp_ne : bp ≠ ze := fun h => by
 have := congrArg EP.y h
 revert this
 decide
theorem bp_order : ml ell bp = ze := ell_kills nsq_1 (Or.inl ⟨rfl, ec1_eq⟩) (by unfold Zp; decide +kernel) (by unfold Zp; decide +kernel)
def t4 : E1 := ⟨57896044618658097711785492504343953926634992332820282019728792003956564819948, 0, by decide, by decide, by unfold Zp; decide +kernel⟩
def t2 : E1 := ⟨0, 57896044618658097711785492504343953926634992332820282019728792003956564819948, by decide, by decide, by unfold Zp; decide +kernel⟩
theorem bp_div {m : Nat} (g : ml m bp = ze) : ell ∣ m := by
 have hg : ml (Nat.gcd ell m) bp = ze := EP.mul_gcd nsq_1 ell m bp_order g
 rcases ell_prime.2 _ (Nat.gcd_dvd_left ell m) with e | e
 ·rw [e, ml_one] at hg; exact (bp_ne hg).elim
 ·have := Nat.gcd_dvd_right ell m; rw [e] at this; exact this
theorem ml_sub {P : E1} {a b : Nat} (h : ml a P = ml b P) (hl : a ≤ b) : ml (b - a) P = ze := by
 have e : b = (b - a) + a := by omega
 rw [e, ml_add] at h
 have : pl ze (ml a P) = pl (ml (b - a) P) (ml a P) := by rw [ze_pl]; exact h
 exact (pl_cancel this).symm
/-! So many places, so many points. -/
end Go.Proofs.YtajaiiidafkijaaDoor
namespace Go.Proofs.YtajaiiidafkijaaDoor
set_option maxRecDepth 100000
open Go.RowKit Go.Sort
attribute [local go_sem] setCell_drewN alloc_drewN
def Edw (w : World) : Prop := Both w ∧ (∃ t fr, w.heap[0]? = some (.cells (kb (tx bp)) t fr)) ∧ (∃ t fr, w.heap[1]? = some (.cells (kb bp.y) t fr))
theorem Edw.sz {w : World} (h : Edw w) : 4 < w.heap.size := h.1.sz
theorem Edw.belowN {w w' : World} {m : Nat} (h : Edw w) (hm : 4 < m) (hb : Below m w w') : Edw w' := by
 obtain ⟨h1, ⟨t, fr, h2⟩, ⟨t', fr', h3⟩⟩ := h
 exact ⟨h1.belowN hm hb, ⟨t, fr, (hb.block _ (by omega)).trans h2⟩, ⟨t', fr', (hb.block _ (by omega)).trans h3⟩⟩
theorem Edw.below {w w' : World} (h : Edw w) (hb : Below w.heap.size w w') : Edw w' := h.belowN h.sz hb
theorem Edw.alloc {w : World} (h : Edw w) (o : Obj) : Edw (w.alloc o) := h.below ((Below.refl _ _).alloc (Nat.le_refl _) _)
theorem Edw.setRow {w : World} {g : Nat} (h : Edw w) (hg : 4 < g) (cs : Array Value) : Edw (w.setRow g cs) := h.belowN (Nat.lt_succ_self _) (below_setRow (Below.refl _ _) hg cs)
def GivesE (f : FuncId) (args : Array Value) (v : Value) : Prop := ∀ W, Edw W → Calls Tryd.prog f args W fun e w' => e = .returned v ∧ Below W.heap.size W w'
theorem GivesE.at {f : FuncId} {args : Array Value} {v : Value} (h : GivesE f args v) {W : World} (hW : Edw W) : Calls Tryd.prog f args W fun e w' => e = .returned v ∧ Below W.heap.size W w' := h W hW
theorem GivesE.re {f : FuncId} {args : Array Value} {v : Value} (h : GivesE f args v) {w : World} {d : Nat} {os : Array Obj} (hw : Edw w) : Calls Tryd.prog f args (grow (redrawn w d) os) fun e w'' => e = .returned v ∧ ∃ p : Regrown, w'' = grow (redrawn w p.d) p.os := Calls.regrown_of (h _ (hw.below (below_regrown w d os)))
theorem txbp_key : KeyOf (kb (tx bp)) (tx bp) := kb_key _ (tx_bd bp).1 (by have := (tx_bd bp).2; rw [prm_is] at this; omega)
set_option maxRecDepth 100000 in
set_option maxHeartbeats 8000000 in
theorem a_Base : ∃ t, PtO t bp ∧ GivesE 19 #[] (.agg t) := by
 obtain ⟨xr, hx0, cX⟩ := a_from txbp_key
 have hx : NumOf xr (tx bp) := hx0.congr (by decide +kernel)
 obtain ⟨yr, hy0, cY⟩ := a_from (y_key bp)
 have hy : NumOf yr bp.y := hy0.congr (by decide +kernel)
 clear hx0 hy0
 obtain ⟨s, hs, cS⟩ := a_flat (P := bp) hx hy (by rw [Int.sub_self]; exact zp_zero) (by rw [Int.sub_self]; exact zp_zero)
 obtain ⟨t, ht, cP⟩ := a_point hs
 refine ⟨t, ht, fun w hF => ?_⟩
 go_enter Tryd.func19, Tryd.ntmps19
 go_wp2
 have rp0 : (w.alloc (.cells q20 45)).heap[w.heap.size]? = some (.cells q20 45 (0, 0)) := hp1_0 w _
 have hw : Below w.heap.size w (w.alloc (.cells q20 45)) := ((Below.refl _ _).alloc (Nat.le_refl _) _)
 have hz0 := hF.sz
 have f4 : Edw (w.alloc (.cells q20 45)) := (hF.alloc _)
 generalize (w.alloc (.cells q20 45)) = w0 at *
 obtain ⟨⟨tA, fA, gA⟩, ⟨tB, fB, gB⟩⟩ := f4.2
 have Hrp0 := keepr rp0
 have HgA := keepr gA
 have HgB := keepr gB
 refine wp_region_tail (C := fun w' => ∃ p : Regrown, w' = grow (redrawn w0 p.d) p.os) 6 _ rfl rfl rfl (by kernel_rfl) (by kernel_rfl) (by kernel_rfl) (by kernel_rfl) ⟨⟨w0.drawn + 1, #[]⟩, by rw [grow_empty]; rfl⟩ ?_
 dsimp only [List.set, idle]
 refine wpQuiet_load_row rfl 25 _ rfl (0) rfl tA (kb (tx bp)) fA _ HgA.out Tryd.underlying25 rfl txbp_key.info ?_
 simp only [Act.put, ZPd, ZPe, ZPf]
 go_big_quiet_step (exact cX.re)
 refine wpQuiet_load_row rfl 25 _ rfl (1) rfl tB (kb bp.y) fB _ HgB.out Tryd.underlying25 rfl (y_key bp).info ?_
 simp only [Act.put, ZPd, ZPe, ZPf]
 go_big_quiet_step (exact cY.re)
 go_big_quiet_step (exact cS.re)
 go_big_quiet_step (exact cP.re f4.1.1)
 refine wpQuiet_idle rfl rfl rfl ?_
 rintro _ ⟨p, rfl⟩
 have hb := below_regrown w0 p.d p.os
 generalize grow (redrawn w0 p.d) p.os = w5 at *
 replace rp0 := keep hb rp0
 replace gA := keep hb gA
 replace gB := keep hb gB
 replace hw := Below.after hw hb
 replace f4 := f4.below hb
 clear hb
 clear Hrp0 HgA HgB
 go_wp2_with (first | (refine wpList_store_row rfl 45 _ _ rfl (w.heap.size) t rfl rfl 45 _ rp0 ht.info ((show _ = 20 from rfl).trans ht.size.symm) ht.one ?_) | fail)
 exact bodyPost_ret (v := .agg t) (results_cell_row Tryd.results19 _ _ (w.heap.size) _ t _ _ rfl (setRow_heap _ _ _ _ _ _ rp0) Tryd.underlying45 rfl ht.info) rfl ⟨rfl, below_setRow hw (by omega) _⟩
end Go.Proofs.YtajaiiidafkijaaDoor
namespace Go.Proofs.YtajaiiidafkijaaDoor
set_option maxRecDepth 100000
open Go.ChangeShapes Go.WideShapes Go.ChangeAt Go.WideMaps Go.WideElems Go.RowKit
theorem gBx : Tryd.prog.globalNamed "pawl/edwards.baseX" = some 0 := by kernel_rfl
theorem tBx : (Tryd.prog.globals[0]?).map (·.type) = some 25 := by kernel_rfl
theorem gBy : Tryd.prog.globalNamed "pawl/edwards.baseY" = some 1 := by kernel_rfl
theorem tBy : (Tryd.prog.globals[1]?).map (·.type) = some 25 := by kernel_rfl
theorem cU8 : Tryd.prog.cellsOf 5 = 1 := by kernel_rfl
theorem cKey : Tryd.prog.cellsOf 25 = 32 := by kernel_rfl
theorem rowN_of {P : Program} {t e : TypeId} {n : Nat} {k : IntKind} (ht : P.underlying t = some (.array n e)) (he : P.underlying e = some (.int k)) (hce : P.cellsOf e = 1) (hct : P.cellsOf t = n) {W : World} {m : Nat} {cs : Array Value} {p : List MemPlace} {ks : List Int}
 (h : DataW.trod (fun _ => ()) P W 0 (fun _ => true) false m t cs.toList = some (.agg (ks.map fun x => .lit (.int k x)), p)) : cs = (ks.map (Value.int k)).toArray := by
 obtain ⟨xs, m1, _, hx, hlen, hn, hel⟩ := DataW.trod_array ht h
 rw [hct] at hlen
 simp only [Prod.mk.injEq, DataW.agg.injEq] at hx
 have hk : ks.length = n := by
  have := congrArg List.length hx.1
  simp only [List.length_map] at this
  omega
 apply Array.ext'
 apply List.ext_getElem
 ·simp only [List.length_map]; omega
 ·intro i h1 h2
  have hin : i < n := by omega
  have hx' : xs[i]? = some xs[i] := List.getElem?_eq_getElem (by omega)
  have e1 := hel i hin
  rw [hce, hx'] at e1
  obtain ⟨a, q0, q1, _⟩ := DataW.trod_int he e1
  simp only [Nat.mul_one] at q0
  rw [List.drop_eq_getElem_cons h1] at q0
  have q0' : cs.toList[i] = .int k a := by simpa using q0
  rw [q0']
  have hi := congrArg (fun l => l[i]?) hx.1
  simp only [List.getElem?_map, List.getElem?_eq_getElem (show i < ks.length by omega), hx', Option.map_some, Option.some.injEq] at hi
  rw [q1] at hi
  simp only [DataW.lit.injEq, Lit.int.injEq, true_and] at hi
  simp [hi]
theorem row_of_var {W : World} {s : String} {g : Nat} (hg : Tryd.prog.globalNamed s = some g) {cs : Array Value} (hv : World.var? Tryd.prog W s = some cs) : ∃ t fr, W.heap[g]? = some (.cells cs t fr) := by
 unfold World.var? at hv
 rw [hg] at hv
 simp only [Option.bind_some] at hv
 split at hv
 ·rename_i cs' t fr hh
  obtain rfl := Option.some.inj hv
  exact ⟨t, fr, hh⟩
 ·cases hv
end Go.Proofs.YtajaiiidafkijaaDoor
namespace Go.Proofs.YtajaiiidafkijaaDoor
set_option maxRecDepth 100000
/-! Numbers modulo the order, in four words. -/
def L19 : Int := 7237005577332262213973186563042994240857116359379907606001950938285454250989
def wd (n : Int) : Array Value := #[.int .u64 (n % 18446744073709551616), .int .u64 (n / 18446744073709551616 % 18446744073709551616), .int .u64 (n / 340282366920938463463374607431768211456 % 18446744073709551616), .int .u64 (n / 6277101735386680763835789423207666416102355444464034512896 % 18446744073709551616)]
def w4 (a b c d : Int) : Int := a + 18446744073709551616 * b + 340282366920938463463374607431768211456 * c + 6277101735386680763835789423207666416102355444464034512896 * d
theorem wd_size (n : Int) : (wd n).size = 4 := rfl
theorem wd_one (n : Int) : (wd n).all (·.oneCell') = true := by kernel_rfl
theorem wd_w4 {a b c d : Int} (ha : 0 ≤ a ∧ a < 18446744073709551616) (hb : 0 ≤ b ∧ b < 18446744073709551616) (hc : 0 ≤ c ∧ c < 18446744073709551616) (hd : 0 ≤ d ∧ d < 18446744073709551616) : wd (w4 a b c d) = #[.int .u64 a, .int .u64 b, .int .u64 c, .int .u64 d] := by
 unfold wd
 rw [show w4 a b c d % 18446744073709551616 = a by unfold w4; omega, show w4 a b c d / 18446744073709551616 % 18446744073709551616 = b by unfold w4; omega, show w4 a b c d / 340282366920938463463374607431768211456 % 18446744073709551616 = c by unfold w4; omega, show w4 a b c d / 6277101735386680763835789423207666416102355444464034512896 % 18446744073709551616 = d by unfold w4; omega]
theorem w4_of {n : Int} (h0 : 0 ≤ n) (h1 : n < 115792089237316195423570985008687907853269984665640564039457584007913129639936) : ∃ a b c d, n = w4 a b c d ∧ (0 ≤ a ∧ a < 18446744073709551616) ∧ (0 ≤ b ∧ b < 18446744073709551616) ∧ (0 ≤ c ∧ c < 18446744073709551616) ∧ (0 ≤ d ∧ d < 18446744073709551616) :=
 ⟨n % 18446744073709551616, n / 18446744073709551616 % 18446744073709551616, n / 340282366920938463463374607431768211456 % 18446744073709551616, n / 6277101735386680763835789423207666416102355444464034512896 % 18446744073709551616, by unfold w4; omega, by omega, by omega, by omega, by omega⟩
theorem plus_w {a0 a1 a2 a3 b0 b1 b2 b3 s0 s1 s2 s3 c1 c2 c3 c4 : Int} (h0 : s0 + 18446744073709551616 * c1 = a0 + b0) (h1 : s1 + 18446744073709551616 * c2 = a1 + b1 + c1) (h2 : s2 + 18446744073709551616 * c3 = a2 + b2 + c2) (h3 : s3 + 18446744073709551616 * c4 = a3 + b3 + c3)
 (q0 : 0 ≤ s0 ∧ s0 < 18446744073709551616) (q1 : 0 ≤ s1 ∧ s1 < 18446744073709551616) (q2 : 0 ≤ s2 ∧ s2 < 18446744073709551616) (q3 : 0 ≤ s3 ∧ s3 < 18446744073709551616) :
 w4 s0 s1 s2 s3 = (w4 a0 a1 a2 a3 + w4 b0 b1 b2 b3) % 115792089237316195423570985008687907853269984665640564039457584007913129639936 ∧ c4 = (w4 a0 a1 a2 a3 + w4 b0 b1 b2 b3) / 115792089237316195423570985008687907853269984665640564039457584007913129639936 := by
 have e : w4 a0 a1 a2 a3 + w4 b0 b1 b2 b3 = w4 s0 s1 s2 s3 + 115792089237316195423570985008687907853269984665640564039457584007913129639936 * c4 := by unfold w4; omega
 have b : 0 ≤ w4 s0 s1 s2 s3 ∧ w4 s0 s1 s2 s3 < 115792089237316195423570985008687907853269984665640564039457584007913129639936 := by unfold w4; omega
 rw [e]
 omega
theorem minus_w {a0 a1 a2 a3 b0 b1 b2 b3 s0 s1 s2 s3 c1 c2 c3 c4 : Int} (h0 : s0 - 18446744073709551616 * c1 = a0 - b0) (h1 : s1 - 18446744073709551616 * c2 = a1 - b1 - c1) (h2 : s2 - 18446744073709551616 * c3 = a2 - b2 - c2) (h3 : s3 - 18446744073709551616 * c4 = a3 - b3 - c3)
 (q0 : 0 ≤ s0 ∧ s0 < 18446744073709551616) (q1 : 0 ≤ s1 ∧ s1 < 18446744073709551616) (q2 : 0 ≤ s2 ∧ s2 < 18446744073709551616) (q3 : 0 ≤ s3 ∧ s3 < 18446744073709551616) :
 w4 s0 s1 s2 s3 = (w4 a0 a1 a2 a3 - w4 b0 b1 b2 b3) % 115792089237316195423570985008687907853269984665640564039457584007913129639936 ∧ c4 = -((w4 a0 a1 a2 a3 - w4 b0 b1 b2 b3) / 115792089237316195423570985008687907853269984665640564039457584007913129639936) := by
 have e : w4 a0 a1 a2 a3 - w4 b0 b1 b2 b3 = w4 s0 s1 s2 s3 - 115792089237316195423570985008687907853269984665640564039457584007913129639936 * c4 := by unfold w4; omega
 have b : 0 ≤ w4 s0 s1 s2 s3 ∧ w4 s0 s1 s2 s3 < 115792089237316195423570985008687907853269984665640564039457584007913129639936 := by unfold w4; omega
 rw [e]
 omega
theorem times_w {a0 a1 a2 a3 m s0 s1 s2 s3 c1 c2 c3 c4 : Int} (h0 : s0 + 18446744073709551616 * c1 = a0 * m) (h1 : s1 + 18446744073709551616 * c2 = a1 * m + c1) (h2 : s2 + 18446744073709551616 * c3 = a2 * m + c2) (h3 : s3 + 18446744073709551616 * c4 = a3 * m + c3)
 (q0 : 0 ≤ s0 ∧ s0 < 18446744073709551616) (q1 : 0 ≤ s1 ∧ s1 < 18446744073709551616) (q2 : 0 ≤ s2 ∧ s2 < 18446744073709551616) (q3 : 0 ≤ s3 ∧ s3 < 18446744073709551616) :
 w4 s0 s1 s2 s3 = w4 a0 a1 a2 a3 * m % 115792089237316195423570985008687907853269984665640564039457584007913129639936 ∧ c4 = w4 a0 a1 a2 a3 * m / 115792089237316195423570985008687907853269984665640564039457584007913129639936 := by
 have e : w4 a0 a1 a2 a3 * m = w4 s0 s1 s2 s3 + 115792089237316195423570985008687907853269984665640564039457584007913129639936 * c4 := by
  unfold w4
  have : (a0 + 18446744073709551616 * a1 + 340282366920938463463374607431768211456 * a2 + 6277101735386680763835789423207666416102355444464034512896 * a3) * m = a0 * m + 18446744073709551616 * (a1 * m) + 340282366920938463463374607431768211456 * (a2 * m) + 6277101735386680763835789423207666416102355444464034512896 * (a3 * m) := by grind
  rw [this]
  generalize a0 * m = p0 at *
  generalize a1 * m = p1 at *
  generalize a2 * m = p2 at *
  generalize a3 * m = p3 at *
  omega
 have b : 0 ≤ w4 s0 s1 s2 s3 ∧ w4 s0 s1 s2 s3 < 115792089237316195423570985008687907853269984665640564039457584007913129639936 := by unfold w4; omega
 rw [e]
 omega
theorem next_w {r a m : Int} (hr : 0 ≤ r ∧ r < L19) (_ha : 0 ≤ a ∧ a < L19) (_hm : 0 ≤ m ∧ m < 256) {V q : Int} (hV : V = 256 * r + m * a) (hq : q = V / 7237005577332262213973186563042994240829374041602535252466099000494570602496) (hb : 0 ≤ m * a ∧ m * a ≤ 255 * (L19 - 1)) :
 (0 ≤ q ∧ q < 1024) ∧ V / 115792089237316195423570985008687907853269984665640564039457584007913129639936 = q * L19 / 115792089237316195423570985008687907853269984665640564039457584007913129639936 ∧ ((0 ≤ V - q * L19 ∧ V - q * L19 = V % L19) ∨ (V - q * L19 < 0 ∧ V - q * L19 + L19 = V % L19)) := by
 unfold L19 at *
 subst hV
 generalize m * a = p at *
 subst hq
 omega
end Go.Proofs.YtajaiiidafkijaaDoor

