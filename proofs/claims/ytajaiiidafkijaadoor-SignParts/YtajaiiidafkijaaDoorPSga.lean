import Derived.Test.YtajaiiidafkijaaDoorPDsi
import Derived.Test.YtajaiiidafkijaaDoorPDwc
import Derived.Test.YtajaiiidafkijaaDoorPWdu
import Derived.Deep.Cut
import Derived.Test.YtajaiiidafkijaaDoorProg
import Derived.WalkKit
import Derived.WalkSpells
import Derived.WalkLawsBesides
import Derived.Lib.QuietBelow
import Derived.BigQuiet
import Derived.Test.YtajaiiidafkijaaDoorPKa
import Derived.Test.YtajaiiidafkijaaDoorPAb
import Derived.Test.YtajaiiidafkijaaDoorPGs
import Derived.Deep.CutRange
namespace Go.Proofs.YtajaiiidafkijaaDoor
set_option maxRecDepth 100000
theorem L_ell : L19 = (ell : Int) := by unfold L19; decide
def nbr (bs : List Int) : Int := (bval (Wi.sumL bs) : Int) % L19
theorem nbr_bd (bs : List Int) : 0 ≤ nbr bs ∧ nbr bs < L19 := mod_L _
theorem ml_mod (m : Nat) : ml (m % ell) bp = ml m bp := by
 have e : m = (m / ell) * ell + m % ell := by rw [Nat.mul_comm]; exact (Nat.div_add_mod m ell).symm
 have h : ml m bp = pl (ml ((m / ell) * ell) bp) (ml (m % ell) bp) := by rw [← ml_add, ← e]
 rw [h, ← ml_ml, bp_order, ml_ze, ze_pl]
theorem pl_ngb (P Q : E1) : pl (pl P Q) (ng Q) = P := by rw [pl_assoc, pl_ng, pl_ze]
theorem sig_hold {a r c : Int} (ha : 0 ≤ a) (hr : 0 ≤ r) (hc : 0 ≤ c) {A : E1} (hA : ml a.toNat bp = A) : pl (ml ((r + c * a) % L19).toNat bp) (ng (ml c.toNat A)) = ml r.toNat bp := by
 have hca : 0 ≤ c * a := Int.mul_nonneg hc ha
 have e : ((r + c * a) % L19).toNat = (r.toNat + c.toNat * a.toNat) % ell := by
  rw [L_ell, Int.toNat_emod (by omega) (by decide), Int.toNat_natCast, Int.toNat_add hr hca, Int.toNat_mul hc ha]
 rw [e, ml_mod, ml_add, ← ml_ml, hA, pl_ngb]
theorem ml_red {a : Int} (ha : 0 ≤ a) : ml (a % L19).toNat bp = ml a.toNat bp := by
 rw [L_ell, Int.toNat_emod ha (by decide), Int.toNat_natCast, ml_mod]
theorem clp_big (K : Int) : ml 8 (ml (clp K).toNat bp) ≠ ze := fun h => by
 rw [ml_ml] at h
 have hd := bp_div h
 have hb : clp K = 8 * ((clp K) / 8) ∧ 0 < clp K / 8 ∧ clp K / 8 < 7237005577332262213973186563042994240829374041602535252466099000494570602496 := by unfold clp; omega
 have hl : (ell : Int) = 7237005577332262213973186563042994240857116359379907606001950938285454250989 := by rw [← L_ell]; rfl
 have e : 8 * (clp K).toNat = 64 * (clp K / 8).toNat := by omega
 rw [e] at hd
 rcases ell_prime.euclid hd with g | g
 ·exact not_dvd_of_lt (by decide) (by decide) g
 ·exact not_dvd_of_lt (by omega) (by omega) g
def sml (P : E1) : Bool := eqb (ml 8 P) ze
theorem sml_iff (P : E1) : sml P = true ↔ ml 8 P = ze := eqb_iff _ _
theorem sml_clp (K : Int) : sml (ml (clp K).toNat bp) = false := by
 rw [← Bool.not_eq_true, sml_iff]; exact clp_big K
theorem ng_ng (P : E1) : ng (ng P) = P := by
 have h : pl (pl P (ng P)) (ng (ng P)) = P := pl_ngb _ _
 rw [pl_ng, ze_pl] at h
 exact h
def chl (R A : Int) (b : List Int) : Int := nbr (b32 R ++ (b32 A ++ b))
def back (P : E1) (b : List Int) (R S : Int) : E1 := pl (ml S.toNat bp) (ng (ml (chl R (pb P) b).toNat P))
def hld (P : E1) (b : List Int) (R S : Int) : Int := if sml P = true then 200 else if L19 ≤ S then 191 else if pb (back P b R S) = R then 0 else 201
noncomputable def chk (N : Int) (b : List Int) (R S : Int) : Int := if pe N = 0 then hld (pp N) b R S else pe N
def sgR (r : Int) : Int := pb (ml r.toNat bp)
def sgS (a r A : Int) (b : List Int) : Int := (r + chl (sgR r) A b * a) % L19
theorem sgS_bd (a r A : Int) (b : List Int) : 0 ≤ sgS a r A b ∧ sgS a r A b < L19 := mod_L _
theorem hld_signed {a r : Int} (ha : 0 ≤ a) (hr : 0 ≤ r) {P : E1} (hA : ml a.toNat bp = P) (hs : sml P = false) (b : List Int) : hld P b (sgR r) (sgS a r (pb P) b) = 0 := by
 have hb := sgS_bd a r (pb P) b
 unfold hld
 rw [hs, if_neg (by decide), if_neg (by omega), if_pos]
 unfold back
 have h := sig_hold (a := a) (r := r) (c := chl (sgR r) (pb P) b) ha hr (nbr_bd _).1 hA
 unfold sgS
 rw [h]
 rfl
def sK (sd : List Int) : Int := (bval ((Wi.sumL sd).take 32) : Int)
def sP (sd : List Int) : Int := (bval ((Wi.sumL sd).drop 32) : Int)
def sec (sd : List Int) : Int := clp (sK sd)
def pubP (sd : List Int) : E1 := ml (sec sd).toNat bp
end Go.Proofs.YtajaiiidafkijaaDoor
namespace Go.Proofs.YtajaiiidafkijaaDoor
set_option maxRecDepth 100000
open Go Go.RowKit Go.Sort
attribute [local go_sem] setCell_drewN alloc_drewN
def Sgn (w : World) : Prop := Edw w ∧ Ord w
theorem Sgn.below {w w' : World} (h : Sgn w) (hb : Below w.heap.size w w') : Sgn w' := ⟨h.1.below hb, h.2.below hb⟩
theorem Sgn.alloc {w : World} (h : Sgn w) (o : Obj) : Sgn (w.alloc o) := h.below ((Below.refl _ _).alloc (Nat.le_refl _) _)
theorem Sgn.four {w : World} (h : Sgn w) : Four w := h.1.1.1
def GivesS (f : FuncId) (args : Array Value) (v : Value) : Prop := ∀ W, Sgn W → Calls Tryd.prog f args W fun e w' => e = .returned v ∧ Below W.heap.size W w'
theorem GivesS.at {f : FuncId} {args : Array Value} {v : Value} (h : GivesS f args v) {W : World} (hW : Sgn W) : Calls Tryd.prog f args W fun e w' => e = .returned v ∧ Below W.heap.size W w' := h W hW
theorem GivesS.re {f : FuncId} {args : Array Value} {v : Value} (h : GivesS f args v) {w : World} {d : Nat} {os : Array Obj} (hw : Sgn w) : Calls Tryd.prog f args (grow (redrawn w d) os) fun e w'' => e = .returned v ∧ ∃ p : Regrown, w'' = grow (redrawn w p.d) p.os := Calls.regrown_of (h _ (hw.below (below_regrown w d os)))
def BysK (W : World) (v : Value) (bs : List Int) : Prop := Bys W v bs ∧ (∀ a l c, v = .slice a l c → l ≤ c) ∧ bs.length ≤ 4611686018427380000
theorem BysK.keep {W W' : World} {v : Value} {bs : List Int} (h : BysK W v bs) (hb : Below W.heap.size W W') : BysK W' v bs := ⟨h.1.keep hb, h.2.1, h.2.2⟩
def PcK (W : World) (v : Value) (ps : List (List Int)) : Prop := ∃ ao cap, v = .slice ao ps.length cap ∧ ps.length ≤ 9223372036854775807 ∧ ∀ i, i < ps.length → ∃ b off u uc, ao = some ⟨b, off, none⟩ ∧ b < W.heap.size ∧ W.cell? ⟨b, off + i, none⟩ = some (.slice u (ps.getD i []).length uc) ∧ Bys W (.slice u (ps.getD i []).length uc) (ps.getD i []) ∧ (ps.getD i []).length ≤ uc
def flt (ps : List (List Int)) (k : Nat) : List Int := (ps.take k).flatten
theorem flt_next (ps : List (List Int)) (k : Nat) (hk : k < ps.length) : flt ps (k + 1) = flt ps k ++ ps.getD k [] := by
 unfold flt
 rw [List.take_add_one, List.flatten_append, List.getElem?_eq_getElem hk, List.getD_eq_getElem?_getD, List.getElem?_eq_getElem hk]
 simp
theorem flt_all (ps : List (List Int)) : flt ps ps.length = ps.flatten := by unfold flt; rw [List.take_length]
theorem flt_len (ps : List (List Int)) (k : Nat) : (flt ps k).length ≤ ps.flatten.length := by
 have h := congrArg List.flatten (List.take_append_drop k ps)
 rw [List.flatten_append] at h
 have := congrArg List.length h
 rw [List.length_append] at this
 unfold flt
 omega
theorem bys_blk {W : World} {u : Option Addr} {l c : Nat} {bs : List Int} (h : Bys W (.slice u l c) bs) : ∀ a, u = some a → 0 < l → a.block < W.heap.size := by
 obtain ⟨ao, cap, e, _, hc, _⟩ := h
 rintro a rfl hl
 cases e
 obtain ⟨b, off, e, hb, _⟩ := hc 0 hl
 cases e
 exact hb
theorem below_grown {a b c : World} {g : Nat} (h : Below a.heap.size a b) (hg : b.grownBy c (some g)) (hge : a.heap.size ≤ g) : Below a.heap.size a c := h.grown hg h.size (fun k e => by injection e with e; omega)
theorem zW (W : World) : (Instr.alloc 37 true (.tuple #[])).run Tryd.prog W = .ok (.pointer (some ⟨W.heap.size, 0, none⟩)) (W.alloc (.cells (Wi.irow .u8 (Wi.zr 64)) 37)) := by kernel_rfl
theorem irow_one (l : List Int) : (Wi.irow .u8 l).all (·.oneCell') = true := by
 rw [Array.all_eq_true']
 intro x hx
 have := Wi.ints_one .u8 l x (by simpa [Wi.irow] using hx)
 exact this
theorem bval_byt : ∀ (l : List Int), (∀ z ∈ l, 0 ≤ z ∧ z < 256) → ∀ i, i < l.length → byt (bval l : Int) i = l.getD i 0
 | [], _, _, h => by simp at h
 | z :: l, hz, 0, _ => by
  have h := hz z (by simp)
  unfold byt
  simp only [bval, List.getD_cons_zero]
  omega
 | z :: l, hz, i + 1, hi => by
  have h := hz z (by simp)
  have ih := bval_byt l (fun y hy => hz y (List.mem_cons_of_mem _ hy)) i (by simpa using hi)
  unfold byt at *
  have e : (bval (z :: l) : Int) / 256 ^ (i + 1) = (bval l : Int) / 256 ^ i := by
   rw [Int.pow_succ, Int.mul_comm, ← Int.ediv_ediv_of_nonneg (by decide)]
   congr 1
   simp only [bval]
   omega
  rw [e, ih]
  simp
theorem b32_map (N : Int) : b32 N = (List.range 32).map (byt N) := rfl
theorem b32_bval (l : List Int) (hl : l.length = 32) (hz : ∀ z ∈ l, 0 ≤ z ∧ z < 256) : b32 (bval l : Int) = l := by
 rw [b32_map]
 apply List.ext_getElem
 ·simp [hl]
 ·intro i h1 h2
  rw [List.getElem_map, List.getElem_range, bval_byt l hz i h2, List.getD_eq_getElem?_getD, List.getElem?_eq_getElem h2]
  rfl
theorem bval_bd : ∀ (l : List Int), (∀ z ∈ l, 0 ≤ z ∧ z < 256) → bval l < 256 ^ l.length
 | [], _ => by decide
 | z :: l, hz => by
  have h := hz z (by simp)
  have ih := bval_bd l (fun y hy => hz y (List.mem_cons_of_mem _ hy))
  simp only [bval, List.length_cons, Nat.pow_succ]
  omega
theorem bval_key (l : List Int) (hl : l.length = 32) (hz : ∀ z ∈ l, 0 ≤ z ∧ z < 256) : KeyOf (kb (bval l : Int)) (bval l : Int) := by
 have := bval_bd l hz
 rw [hl] at this
 have e : (256 : Nat) ^ 32 = 115792089237316195423570985008687907853269984665640564039457584007913129639936 := by decide
 exact kb_key _ (by omega) (by omega)
theorem sum_bd (bs : List Int) : ∀ z ∈ Wi.sumL bs, 0 ≤ z ∧ z < 256 := Wi.byts_bd _
theorem sK_key (sd : List Int) : KeyOf (kb (sK sd)) (sK sd) := bval_key _ (by simp [Wi.sumL_len]) (fun z h => sum_bd sd z (List.mem_of_mem_take h))
theorem sK_b32 (sd : List Int) : b32 (sK sd) = (Wi.sumL sd).take 32 := b32_bval _ (by simp [Wi.sumL_len]) (fun z h => sum_bd sd z (List.mem_of_mem_take h))
theorem sP_b32 (sd : List Int) : b32 (sP sd) = (Wi.sumL sd).drop 32 := b32_bval _ (by simp [Wi.sumL_len]) (fun z h => sum_bd sd z (List.mem_of_mem_drop h))
end Go.Proofs.YtajaiiidafkijaaDoor
namespace Go.Proofs.YtajaiiidafkijaaDoor
set_option maxRecDepth 100000
open Go.RowKit Go.Sort
attribute [local go_sem] setCell_drewN alloc_drewN
theorem all32 {k0 k1 k2 k3 k4 k5 k6 k7 k8 k9 k10 k11 k12 k13 k14 k15 k16 k17 k18 k19 k20 k21 k22 k23 k24 k25 k26 k27 k28 k29 k30 k31 : Int} (h0 : 0 ≤ k0 ∧ k0 < 256) (h1 : 0 ≤ k1 ∧ k1 < 256) (h2 : 0 ≤ k2 ∧ k2 < 256) (h3 : 0 ≤ k3 ∧ k3 < 256) (h4 : 0 ≤ k4 ∧ k4 < 256) (h5 : 0 ≤ k5 ∧ k5 < 256) (h6 : 0 ≤ k6 ∧ k6 < 256) (h7 : 0 ≤ k7 ∧ k7 < 256) (h8 : 0 ≤ k8 ∧ k8 < 256) (h9 : 0 ≤ k9 ∧ k9 < 256) (h10 : 0 ≤ k10 ∧ k10 < 256) (h11 : 0 ≤ k11 ∧ k11 < 256) (h12 : 0 ≤ k12 ∧ k12 < 256) (h13 : 0 ≤ k13 ∧ k13 < 256) (h14 : 0 ≤ k14 ∧ k14 < 256) (h15 : 0 ≤ k15 ∧ k15 < 256) (h16 : 0 ≤ k16 ∧ k16 < 256) (h17 : 0 ≤ k17 ∧ k17 < 256) (h18 : 0 ≤ k18 ∧ k18 < 256) (h19 : 0 ≤ k19 ∧ k19 < 256) (h20 : 0 ≤ k20 ∧ k20 < 256) (h21 : 0 ≤ k21 ∧ k21 < 256) (h22 : 0 ≤ k22 ∧ k22 < 256) (h23 : 0 ≤ k23 ∧ k23 < 256) (h24 : 0 ≤ k24 ∧ k24 < 256) (h25 : 0 ≤ k25 ∧ k25 < 256) (h26 : 0 ≤ k26 ∧ k26 < 256) (h27 : 0 ≤ k27 ∧ k27 < 256) (h28 : 0 ≤ k28 ∧ k28 < 256) (h29 : 0 ≤ k29 ∧ k29 < 256) (h30 : 0 ≤ k30 ∧ k30 < 256) (h31 : 0 ≤ k31 ∧ k31 < 256) : ∀ d ∈ [k0, k1, k2, k3, k4, k5, k6, k7, k8, k9, k10, k11, k12, k13, k14, k15, k16, k17, k18, k19, k20, k21, k22, k23, k24, k25, k26, k27, k28, k29, k30, k31], 0 ≤ d ∧ d < 256 := by
 simp only [List.forall_mem_cons]
 exact ⟨h0, h1, h2, h3, h4, h5, h6, h7, h8, h9, h10, h11, h12, h13, h14, h15, h16, h17, h18, h19, h20, h21, h22, h23, h24, h25, h26, h27, h28, h29, h30, h31, fun _ h => by cases h⟩
theorem key_kb {r : Array Value} {N : Int} (h : KeyOf r N) : r = kb N := by
 obtain ⟨k0, k1, k2, k3, k4, k5, k6, k7, k8, k9, k10, k11, k12, k13, k14, k15, k16, k17, k18, k19, k20, k21, k22, k23, k24, k25, k26, k27, k28, k29, k30, k31, rfl, ⟨h0, h1, h2, h3, h4, h5, h6, h7, h8, h9, h10, h11, h12, h13, h14, h15, h16, h17, h18, h19, h20, h21, h22, h23, h24, h25, h26, h27, h28, h29, h30, h31⟩, rfl⟩ := h
 have hb := all32 h0 h1 h2 h3 h4 h5 h6 h7 h8 h9 h10 h11 h12 h13 h14 h15 h16 h17 h18 h19 h20 h21 h22 h23 h24 h25 h26 h27 h28 h29 h30 h31
 have e0 : byt (kv k0 k1 k2 k3 k4 k5 k6 k7 k8 k9 k10 k11 k12 k13 k14 k15 k16 k17 k18 k19 k20 k21 k22 k23 k24 k25 k26 k27 k28 k29 k30 k31) 0 = k0 := byt_valB _ hb 0 (by simp)
 have e1 : byt (kv k0 k1 k2 k3 k4 k5 k6 k7 k8 k9 k10 k11 k12 k13 k14 k15 k16 k17 k18 k19 k20 k21 k22 k23 k24 k25 k26 k27 k28 k29 k30 k31) 1 = k1 := byt_valB _ hb 1 (by simp)
 have e2 : byt (kv k0 k1 k2 k3 k4 k5 k6 k7 k8 k9 k10 k11 k12 k13 k14 k15 k16 k17 k18 k19 k20 k21 k22 k23 k24 k25 k26 k27 k28 k29 k30 k31) 2 = k2 := byt_valB _ hb 2 (by simp)
 have e3 : byt (kv k0 k1 k2 k3 k4 k5 k6 k7 k8 k9 k10 k11 k12 k13 k14 k15 k16 k17 k18 k19 k20 k21 k22 k23 k24 k25 k26 k27 k28 k29 k30 k31) 3 = k3 := byt_valB _ hb 3 (by simp)
 have e4 : byt (kv k0 k1 k2 k3 k4 k5 k6 k7 k8 k9 k10 k11 k12 k13 k14 k15 k16 k17 k18 k19 k20 k21 k22 k23 k24 k25 k26 k27 k28 k29 k30 k31) 4 = k4 := byt_valB _ hb 4 (by simp)
 have e5 : byt (kv k0 k1 k2 k3 k4 k5 k6 k7 k8 k9 k10 k11 k12 k13 k14 k15 k16 k17 k18 k19 k20 k21 k22 k23 k24 k25 k26 k27 k28 k29 k30 k31) 5 = k5 := byt_valB _ hb 5 (by simp)
 have e6 : byt (kv k0 k1 k2 k3 k4 k5 k6 k7 k8 k9 k10 k11 k12 k13 k14 k15 k16 k17 k18 k19 k20 k21 k22 k23 k24 k25 k26 k27 k28 k29 k30 k31) 6 = k6 := byt_valB _ hb 6 (by simp)
 have e7 : byt (kv k0 k1 k2 k3 k4 k5 k6 k7 k8 k9 k10 k11 k12 k13 k14 k15 k16 k17 k18 k19 k20 k21 k22 k23 k24 k25 k26 k27 k28 k29 k30 k31) 7 = k7 := byt_valB _ hb 7 (by simp)
 have e8 : byt (kv k0 k1 k2 k3 k4 k5 k6 k7 k8 k9 k10 k11 k12 k13 k14 k15 k16 k17 k18 k19 k20 k21 k22 k23 k24 k25 k26 k27 k28 k29 k30 k31) 8 = k8 := byt_valB _ hb 8 (by simp)
 have e9 : byt (kv k0 k1 k2 k3 k4 k5 k6 k7 k8 k9 k10 k11 k12 k13 k14 k15 k16 k17 k18 k19 k20 k21 k22 k23 k24 k25 k26 k27 k28 k29 k30 k31) 9 = k9 := byt_valB _ hb 9 (by simp)
 have e10 : byt (kv k0 k1 k2 k3 k4 k5 k6 k7 k8 k9 k10 k11 k12 k13 k14 k15 k16 k17 k18 k19 k20 k21 k22 k23 k24 k25 k26 k27 k28 k29 k30 k31) 10 = k10 := byt_valB _ hb 10 (by simp)
 have e11 : byt (kv k0 k1 k2 k3 k4 k5 k6 k7 k8 k9 k10 k11 k12 k13 k14 k15 k16 k17 k18 k19 k20 k21 k22 k23 k24 k25 k26 k27 k28 k29 k30 k31) 11 = k11 := byt_valB _ hb 11 (by simp)
 have e12 : byt (kv k0 k1 k2 k3 k4 k5 k6 k7 k8 k9 k10 k11 k12 k13 k14 k15 k16 k17 k18 k19 k20 k21 k22 k23 k24 k25 k26 k27 k28 k29 k30 k31) 12 = k12 := byt_valB _ hb 12 (by simp)
 have e13 : byt (kv k0 k1 k2 k3 k4 k5 k6 k7 k8 k9 k10 k11 k12 k13 k14 k15 k16 k17 k18 k19 k20 k21 k22 k23 k24 k25 k26 k27 k28 k29 k30 k31) 13 = k13 := byt_valB _ hb 13 (by simp)
 have e14 : byt (kv k0 k1 k2 k3 k4 k5 k6 k7 k8 k9 k10 k11 k12 k13 k14 k15 k16 k17 k18 k19 k20 k21 k22 k23 k24 k25 k26 k27 k28 k29 k30 k31) 14 = k14 := byt_valB _ hb 14 (by simp)
 have e15 : byt (kv k0 k1 k2 k3 k4 k5 k6 k7 k8 k9 k10 k11 k12 k13 k14 k15 k16 k17 k18 k19 k20 k21 k22 k23 k24 k25 k26 k27 k28 k29 k30 k31) 15 = k15 := byt_valB _ hb 15 (by simp)
 have e16 : byt (kv k0 k1 k2 k3 k4 k5 k6 k7 k8 k9 k10 k11 k12 k13 k14 k15 k16 k17 k18 k19 k20 k21 k22 k23 k24 k25 k26 k27 k28 k29 k30 k31) 16 = k16 := byt_valB _ hb 16 (by simp)
 have e17 : byt (kv k0 k1 k2 k3 k4 k5 k6 k7 k8 k9 k10 k11 k12 k13 k14 k15 k16 k17 k18 k19 k20 k21 k22 k23 k24 k25 k26 k27 k28 k29 k30 k31) 17 = k17 := byt_valB _ hb 17 (by simp)
 have e18 : byt (kv k0 k1 k2 k3 k4 k5 k6 k7 k8 k9 k10 k11 k12 k13 k14 k15 k16 k17 k18 k19 k20 k21 k22 k23 k24 k25 k26 k27 k28 k29 k30 k31) 18 = k18 := byt_valB _ hb 18 (by simp)
 have e19 : byt (kv k0 k1 k2 k3 k4 k5 k6 k7 k8 k9 k10 k11 k12 k13 k14 k15 k16 k17 k18 k19 k20 k21 k22 k23 k24 k25 k26 k27 k28 k29 k30 k31) 19 = k19 := byt_valB _ hb 19 (by simp)
 have e20 : byt (kv k0 k1 k2 k3 k4 k5 k6 k7 k8 k9 k10 k11 k12 k13 k14 k15 k16 k17 k18 k19 k20 k21 k22 k23 k24 k25 k26 k27 k28 k29 k30 k31) 20 = k20 := byt_valB _ hb 20 (by simp)
 have e21 : byt (kv k0 k1 k2 k3 k4 k5 k6 k7 k8 k9 k10 k11 k12 k13 k14 k15 k16 k17 k18 k19 k20 k21 k22 k23 k24 k25 k26 k27 k28 k29 k30 k31) 21 = k21 := byt_valB _ hb 21 (by simp)
 have e22 : byt (kv k0 k1 k2 k3 k4 k5 k6 k7 k8 k9 k10 k11 k12 k13 k14 k15 k16 k17 k18 k19 k20 k21 k22 k23 k24 k25 k26 k27 k28 k29 k30 k31) 22 = k22 := byt_valB _ hb 22 (by simp)
 have e23 : byt (kv k0 k1 k2 k3 k4 k5 k6 k7 k8 k9 k10 k11 k12 k13 k14 k15 k16 k17 k18 k19 k20 k21 k22 k23 k24 k25 k26 k27 k28 k29 k30 k31) 23 = k23 := byt_valB _ hb 23 (by simp)
 have e24 : byt (kv k0 k1 k2 k3 k4 k5 k6 k7 k8 k9 k10 k11 k12 k13 k14 k15 k16 k17 k18 k19 k20 k21 k22 k23 k24 k25 k26 k27 k28 k29 k30 k31) 24 = k24 := byt_valB _ hb 24 (by simp)
 have e25 : byt (kv k0 k1 k2 k3 k4 k5 k6 k7 k8 k9 k10 k11 k12 k13 k14 k15 k16 k17 k18 k19 k20 k21 k22 k23 k24 k25 k26 k27 k28 k29 k30 k31) 25 = k25 := byt_valB _ hb 25 (by simp)
 have e26 : byt (kv k0 k1 k2 k3 k4 k5 k6 k7 k8 k9 k10 k11 k12 k13 k14 k15 k16 k17 k18 k19 k20 k21 k22 k23 k24 k25 k26 k27 k28 k29 k30 k31) 26 = k26 := byt_valB _ hb 26 (by simp)
 have e27 : byt (kv k0 k1 k2 k3 k4 k5 k6 k7 k8 k9 k10 k11 k12 k13 k14 k15 k16 k17 k18 k19 k20 k21 k22 k23 k24 k25 k26 k27 k28 k29 k30 k31) 27 = k27 := byt_valB _ hb 27 (by simp)
 have e28 : byt (kv k0 k1 k2 k3 k4 k5 k6 k7 k8 k9 k10 k11 k12 k13 k14 k15 k16 k17 k18 k19 k20 k21 k22 k23 k24 k25 k26 k27 k28 k29 k30 k31) 28 = k28 := byt_valB _ hb 28 (by simp)
 have e29 : byt (kv k0 k1 k2 k3 k4 k5 k6 k7 k8 k9 k10 k11 k12 k13 k14 k15 k16 k17 k18 k19 k20 k21 k22 k23 k24 k25 k26 k27 k28 k29 k30 k31) 29 = k29 := byt_valB _ hb 29 (by simp)
 have e30 : byt (kv k0 k1 k2 k3 k4 k5 k6 k7 k8 k9 k10 k11 k12 k13 k14 k15 k16 k17 k18 k19 k20 k21 k22 k23 k24 k25 k26 k27 k28 k29 k30 k31) 30 = k30 := byt_valB _ hb 30 (by simp)
 have e31 : byt (kv k0 k1 k2 k3 k4 k5 k6 k7 k8 k9 k10 k11 k12 k13 k14 k15 k16 k17 k18 k19 k20 k21 k22 k23 k24 k25 k26 k27 k28 k29 k30 k31) 31 = k31 := byt_valB _ hb 31 (by simp)
 simp only [kb, e0, e1, e2, e3, e4, e5, e6, e7, e8, e9, e10, e11, e12, e13, e14, e15, e16, e17, e18, e19, e20, e21, e22, e23, e24, e25, e26, e27, e28, e29, e30, e31]
theorem clp_kv (k0 k1 k2 k3 k4 k5 k6 k7 k8 k9 k10 k11 k12 k13 k14 k15 k16 k17 k18 k19 k20 k21 k22 k23 k24 k25 k26 k27 k28 k29 k30 k31 : Int) (h0 : 0 ≤ k0 ∧ k0 < 256) (h1 : 0 ≤ k1 ∧ k1 < 256) (h2 : 0 ≤ k2 ∧ k2 < 256) (h3 : 0 ≤ k3 ∧ k3 < 256) (h4 : 0 ≤ k4 ∧ k4 < 256) (h5 : 0 ≤ k5 ∧ k5 < 256) (h6 : 0 ≤ k6 ∧ k6 < 256) (h7 : 0 ≤ k7 ∧ k7 < 256) (h8 : 0 ≤ k8 ∧ k8 < 256) (h9 : 0 ≤ k9 ∧ k9 < 256) (h10 : 0 ≤ k10 ∧ k10 < 256) (h11 : 0 ≤ k11 ∧ k11 < 256) (h12 : 0 ≤ k12 ∧ k12 < 256) (h13 : 0 ≤ k13 ∧ k13 < 256) (h14 : 0 ≤ k14 ∧ k14 < 256) (h15 : 0 ≤ k15 ∧ k15 < 256) (h16 : 0 ≤ k16 ∧ k16 < 256) (h17 : 0 ≤ k17 ∧ k17 < 256) (h18 : 0 ≤ k18 ∧ k18 < 256) (h19 : 0 ≤ k19 ∧ k19 < 256) (h20 : 0 ≤ k20 ∧ k20 < 256) (h21 : 0 ≤ k21 ∧ k21 < 256) (h22 : 0 ≤ k22 ∧ k22 < 256) (h23 : 0 ≤ k23 ∧ k23 < 256) (h24 : 0 ≤ k24 ∧ k24 < 256) (h25 : 0 ≤ k25 ∧ k25 < 256) (h26 : 0 ≤ k26 ∧ k26 < 256) (h27 : 0 ≤ k27 ∧ k27 < 256) (h28 : 0 ≤ k28 ∧ k28 < 256) (h29 : 0 ≤ k29 ∧ k29 < 256) (h30 : 0 ≤ k30 ∧ k30 < 256) : kv (k0 / 8 * 8) k1 k2 k3 k4 k5 k6 k7 k8 k9 k10 k11 k12 k13 k14 k15 k16 k17 k18 k19 k20 k21 k22 k23 k24 k25 k26 k27 k28 k29 k30 (k31 % 64 + 64) = clp (kv k0 k1 k2 k3 k4 k5 k6 k7 k8 k9 k10 k11 k12 k13 k14 k15 k16 k17 k18 k19 k20 k21 k22 k23 k24 k25 k26 k27 k28 k29 k30 k31) := by
 have e : ∃ L, 0 ≤ L ∧ L < 1766847064778384329583297500742918515827483896875618958121606201292619776 ∧ kv k0 k1 k2 k3 k4 k5 k6 k7 k8 k9 k10 k11 k12 k13 k14 k15 k16 k17 k18 k19 k20 k21 k22 k23 k24 k25 k26 k27 k28 k29 k30 k31 = k0 + 256 * L + 452312848583266388373324160190187140051835877600158453279131187530910662656 * k31 ∧ kv (k0 / 8 * 8) k1 k2 k3 k4 k5 k6 k7 k8 k9 k10 k11 k12 k13 k14 k15 k16 k17 k18 k19 k20 k21 k22 k23 k24 k25 k26 k27 k28 k29 k30 (k31 % 64 + 64) = k0 / 8 * 8 + 256 * L + 452312848583266388373324160190187140051835877600158453279131187530910662656 * (k31 % 64 + 64) := by
  refine ⟨valB [k1, k2, k3, k4, k5, k6, k7, k8, k9, k10, k11, k12, k13, k14, k15, k16, k17, k18, k19, k20, k21, k22, k23, k24, k25, k26, k27, k28, k29, k30], ?_, ?_, ?_, ?_⟩
  ·simp only [valB]; omega
  ·simp only [valB]; omega
  ·simp only [kv, valB]; omega
  ·simp only [kv, valB]; omega
 obtain ⟨L, l0, l1, e0, e1⟩ := e
 rw [e0, e1]
 unfold clp
 clear e0 e1
 omega
theorem and248 (x : Int) (h : 0 ≤ x ∧ x < 256) : bits .and .u8 x 248 = x / 8 * 8 := by
 obtain ⟨n, rfl⟩ := Int.eq_ofNat_of_zero_le h.1
 have : ∀ n : Nat, n < 256 → bits .and .u8 (n : Int) 248 = (n : Int) / 8 * 8 := by decide +kernel
 exact this n (by omega)
theorem clamp31 (x : Int) (h : 0 ≤ x ∧ x < 256) : bits .or .u8 (bits .and .u8 x 127) 64 = x % 64 + 64 := by
 obtain ⟨n, rfl⟩ := Int.eq_ofNat_of_zero_le h.1
 have : ∀ n : Nat, n < 256 → bits .or .u8 (bits .and .u8 (n : Int) 127) 64 = (n : Int) % 64 + 64 := by decide +kernel
 exact this n (by omega)
theorem clp_cells {r : Array Value} {N : Int} (h : KeyOf r N) : (r.setIfInBounds 0 (.int .u8 (byt N 0 / 8 * 8))).setIfInBounds 31 (.int .u8 (byt N 31 % 64 + 64)) = kb (clp N) := by
 obtain ⟨k0, k1, k2, k3, k4, k5, k6, k7, k8, k9, k10, k11, k12, k13, k14, k15, k16, k17, k18, k19, k20, k21, k22, k23, k24, k25, k26, k27, k28, k29, k30, k31, rfl, ⟨h0, h1, h2, h3, h4, h5, h6, h7, h8, h9, h10, h11, h12, h13, h14, h15, h16, h17, h18, h19, h20, h21, h22, h23, h24, h25, h26, h27, h28, h29, h30, h31⟩, rfl⟩ := h
 have hb := all32 h0 h1 h2 h3 h4 h5 h6 h7 h8 h9 h10 h11 h12 h13 h14 h15 h16 h17 h18 h19 h20 h21 h22 h23 h24 h25 h26 h27 h28 h29 h30 h31
 have e0 : byt (kv k0 k1 k2 k3 k4 k5 k6 k7 k8 k9 k10 k11 k12 k13 k14 k15 k16 k17 k18 k19 k20 k21 k22 k23 k24 k25 k26 k27 k28 k29 k30 k31) 0 = k0 := byt_valB _ hb 0 (by simp)
 have e31 : byt (kv k0 k1 k2 k3 k4 k5 k6 k7 k8 k9 k10 k11 k12 k13 k14 k15 k16 k17 k18 k19 k20 k21 k22 k23 k24 k25 k26 k27 k28 k29 k30 k31) 31 = k31 := byt_valB _ hb 31 (by simp)
 rw [e0, e31]
 have hk : KeyOf (#[.int .u8 (k0 / 8 * 8), .int .u8 k1, .int .u8 k2, .int .u8 k3, .int .u8 k4, .int .u8 k5, .int .u8 k6, .int .u8 k7, .int .u8 k8, .int .u8 k9, .int .u8 k10, .int .u8 k11, .int .u8 k12, .int .u8 k13, .int .u8 k14, .int .u8 k15, .int .u8 k16, .int .u8 k17, .int .u8 k18, .int .u8 k19, .int .u8 k20, .int .u8 k21, .int .u8 k22, .int .u8 k23, .int .u8 k24, .int .u8 k25, .int .u8 k26, .int .u8 k27, .int .u8 k28, .int .u8 k29, .int .u8 k30, .int .u8 (k31 % 64 + 64)]) (clp (kv k0 k1 k2 k3 k4 k5 k6 k7 k8 k9 k10 k11 k12 k13 k14 k15 k16 k17 k18 k19 k20 k21 k22 k23 k24 k25 k26 k27 k28 k29 k30 k31)) := ⟨_, _, _, _, _, _, _, _, _, _, _, _, _, _, _, _, _, _, _, _, _, _, _, _, _, _, _, _, _, _, _, _, rfl, ⟨by omega, h1, h2, h3, h4, h5, h6, h7, h8, h9, h10, h11, h12, h13, h14, h15, h16, h17, h18, h19, h20, h21, h22, h23, h24, h25, h26, h27, h28, h29, h30, by omega⟩, clp_kv k0 k1 k2 k3 k4 k5 k6 k7 k8 k9 k10 k11 k12 k13 k14 k15 k16 k17 k18 k19 k20 k21 k22 k23 k24 k25 k26 k27 k28 k29 k30 k31 h0 h1 h2 h3 h4 h5 h6 h7 h8 h9 h10 h11 h12 h13 h14 h15 h16 h17 h18 h19 h20 h21 h22 h23 h24 h25 h26 h27 h28 h29 h30⟩
 exact key_kb hk
end Go.Proofs.YtajaiiidafkijaaDoor
namespace Go.Proofs.YtajaiiidafkijaaDoor
set_option maxRecDepth 100000
open Go.RowKit Go.Sort
attribute [local go_sem] setCell_drewN alloc_drewN
set_option maxHeartbeats 4000000 in
set_option maxRecDepth 10000 in
theorem a_clamp {r : Array Value} {N : Int} (h : KeyOf r N) : Gives 18 #[.agg r] (.agg (kb (clp N))) := by
 have q0 : r[0]? = some (.int .u8 (byt N 0)) := by rw [key_kb h]; rfl
 have q31 : r[31]? = some (.int .u8 (byt N 31)) := by rw [key_kb h]; rfl
 have hs := h.size
 have hE := clp_cells h
 have b0 := byt_bd N 0
 have b31 := byt_bd N 31
 have hk : KeyOf (kb (clp N)) (clp N) := kb_key _ (clp_bd N).1 (Int.lt_trans (clp_bd N).2 (by decide))
 have hi := h.info
 have ho := h.one
 clear h
 have e0 := and248 (byt N 0) b0
 have e31 := clamp31 (byt N 31) b31
 generalize byt N 0 = k0 at *
 generalize byt N 31 = k31 at *
 generalize kb (clp N) = r' at *
 generalize clp N = N' at *
 intro w
 have r0 := hp2_0 w (.cells r 25) (.cells #[.int .u8 0, .int .u8 0, .int .u8 0, .int .u8 0, .int .u8 0, .int .u8 0, .int .u8 0, .int .u8 0, .int .u8 0, .int .u8 0, .int .u8 0, .int .u8 0, .int .u8 0, .int .u8 0, .int .u8 0, .int .u8 0, .int .u8 0, .int .u8 0, .int .u8 0, .int .u8 0, .int .u8 0, .int .u8 0, .int .u8 0, .int .u8 0, .int .u8 0, .int .u8 0, .int .u8 0, .int .u8 0, .int .u8 0, .int .u8 0, .int .u8 0, .int .u8 0] 25)
 have r1 := hp2_1 w (.cells r 25) (.cells #[.int .u8 0, .int .u8 0, .int .u8 0, .int .u8 0, .int .u8 0, .int .u8 0, .int .u8 0, .int .u8 0, .int .u8 0, .int .u8 0, .int .u8 0, .int .u8 0, .int .u8 0, .int .u8 0, .int .u8 0, .int .u8 0, .int .u8 0, .int .u8 0, .int .u8 0, .int .u8 0, .int .u8 0, .int .u8 0, .int .u8 0, .int .u8 0, .int .u8 0, .int .u8 0, .int .u8 0, .int .u8 0, .int .u8 0, .int .u8 0, .int .u8 0, .int .u8 0] 25)
 have hw : Below w.heap.size w ((w.alloc (.cells r 25)).alloc (.cells #[.int .u8 0, .int .u8 0, .int .u8 0, .int .u8 0, .int .u8 0, .int .u8 0, .int .u8 0, .int .u8 0, .int .u8 0, .int .u8 0, .int .u8 0, .int .u8 0, .int .u8 0, .int .u8 0, .int .u8 0, .int .u8 0, .int .u8 0, .int .u8 0, .int .u8 0, .int .u8 0, .int .u8 0, .int .u8 0, .int .u8 0, .int .u8 0, .int .u8 0, .int .u8 0, .int .u8 0, .int .u8 0, .int .u8 0, .int .u8 0, .int .u8 0, .int .u8 0] 25)) := ((Below.refl _ _).alloc (Nat.le_refl _) _).alloc (by simp) _
 go_enter Tryd.func18, Tryd.ntmps18
 iterate 9 go_step
 generalize ((w.alloc (.cells r 25)).alloc (.cells #[.int .u8 0, .int .u8 0, .int .u8 0, .int .u8 0, .int .u8 0, .int .u8 0, .int .u8 0, .int .u8 0, .int .u8 0, .int .u8 0, .int .u8 0, .int .u8 0, .int .u8 0, .int .u8 0, .int .u8 0, .int .u8 0, .int .u8 0, .int .u8 0, .int .u8 0, .int .u8 0, .int .u8 0, .int .u8 0, .int .u8 0, .int .u8 0, .int .u8 0, .int .u8 0, .int .u8 0, .int .u8 0, .int .u8 0, .int .u8 0, .int .u8 0, .int .u8 0] 25)) = w0 at *
 have c0 : w0.cell? ⟨w.heap.size, 0, none⟩ = some (.int .u8 k0) := (cell_of_row _ _ _ _ _ _ r0).trans q0
 have c31 : w0.cell? ⟨w.heap.size, 31, none⟩ = some (.int .u8 k31) := (cell_of_row _ _ _ _ _ _ r0).trans q31
 have f0 : w0.frozen? ⟨w.heap.size, 0, none⟩ = false := by simp [World.frozen?, r0]
 have f31 : w0.frozen? ⟨w.heap.size, 31, none⟩ = false := by simp [World.frozen?, r0]
 have R0 : ((w0.setCell ⟨w.heap.size, 0, none⟩ (.int .u8 (k0 / 8 * 8))).setCell ⟨w.heap.size, 31, none⟩ (.int .u8 (k31 % 64 + 64))).heap[w.heap.size]? = some (.cells r' 25 (0, 0)) := by rw [← hE]; exact heap_setCell_same _ _ _ _ _ _ (heap_setCell_same _ _ _ _ _ _ r0)
 have R1 : ((w0.setCell ⟨w.heap.size, 0, none⟩ (.int .u8 (k0 / 8 * 8))).setCell ⟨w.heap.size, 31, none⟩ (.int .u8 (k31 % 64 + 64))).heap[w.heap.size + 1]? = some (.cells #[.int .u8 0, .int .u8 0, .int .u8 0, .int .u8 0, .int .u8 0, .int .u8 0, .int .u8 0, .int .u8 0, .int .u8 0, .int .u8 0, .int .u8 0, .int .u8 0, .int .u8 0, .int .u8 0, .int .u8 0, .int .u8 0, .int .u8 0, .int .u8 0, .int .u8 0, .int .u8 0, .int .u8 0, .int .u8 0, .int .u8 0, .int .u8 0, .int .u8 0, .int .u8 0, .int .u8 0, .int .u8 0, .int .u8 0, .int .u8 0, .int .u8 0, .int .u8 0] 25 (0, 0)) := (heap_setCell_other _ _ _ _ (by simp)).trans ((heap_setCell_other _ _ _ _ (by simp)).trans r1)
 have hw2 : Below w.heap.size w ((w0.setCell ⟨w.heap.size, 0, none⟩ (.int .u8 (k0 / 8 * 8))).setCell ⟨w.heap.size, 31, none⟩ (.int .u8 (k31 % 64 + 64))) := (hw.setCell (Nat.le_refl _) _).setCell (Nat.le_refl _) _
 go_wp2_with (first | (refine wpList_load_want rfl 25 _ rfl (w.heap.size) rfl 25 r' (0, 0) _ R0 Tryd.underlying25 rfl hk.info ?_) | (refine wpList_store_row rfl 25 _ _ rfl (w.heap.size + 1) r' rfl rfl 25 _ R1 hk.info hk.size.symm hk.one ?_) | fail)
 exact bodyPost_ret (v := .agg r') (results_cell_row Tryd.results18 _ _ (w.heap.size + 1) _ r' _ _ rfl (setRow_heap _ _ _ _ _ _ R1) Tryd.underlying25 rfl hk.info) rfl ⟨rfl, below_setRow hw2 (by omega) _⟩
end Go.Proofs.YtajaiiidafkijaaDoor
namespace Go.Proofs.YtajaiiidafkijaaDoor
set_option maxRecDepth 100000
open Go Go.RowKit Go.Sort
attribute [local go_sem] setCell_drewN alloc_drewN
theorem z32 : #[.int .u8 0, .int .u8 0, .int .u8 0, .int .u8 0, .int .u8 0, .int .u8 0, .int .u8 0, .int .u8 0, .int .u8 0, .int .u8 0, .int .u8 0, .int .u8 0, .int .u8 0, .int .u8 0, .int .u8 0, .int .u8 0, .int .u8 0, .int .u8 0, .int .u8 0, .int .u8 0, .int .u8 0, .int .u8 0, .int .u8 0, .int .u8 0, .int .u8 0, .int .u8 0, .int .u8 0, .int .u8 0, .int .u8 0, .int .u8 0, .int .u8 0, .int .u8 0] = kb 0 := rfl
def pz : Array Value := #[.int .u64 0, .int .u64 0, .int .u64 0, .int .u64 0, .int .u64 0, .int .u64 0, .int .u64 0, .int .u64 0, .int .u64 0, .int .u64 0, .int .u64 0, .int .u64 0, .int .u64 0, .int .u64 0, .int .u64 0, .int .u64 0, .int .u64 0, .int .u64 0, .int .u64 0, .int .u64 0]
theorem z64 : #[.int .u8 0, .int .u8 0, .int .u8 0, .int .u8 0, .int .u8 0, .int .u8 0, .int .u8 0, .int .u8 0, .int .u8 0, .int .u8 0, .int .u8 0, .int .u8 0, .int .u8 0, .int .u8 0, .int .u8 0, .int .u8 0, .int .u8 0, .int .u8 0, .int .u8 0, .int .u8 0, .int .u8 0, .int .u8 0, .int .u8 0, .int .u8 0, .int .u8 0, .int .u8 0, .int .u8 0, .int .u8 0, .int .u8 0, .int .u8 0, .int .u8 0, .int .u8 0, .int .u8 0, .int .u8 0, .int .u8 0, .int .u8 0, .int .u8 0, .int .u8 0, .int .u8 0, .int .u8 0, .int .u8 0, .int .u8 0, .int .u8 0, .int .u8 0, .int .u8 0, .int .u8 0, .int .u8 0, .int .u8 0, .int .u8 0, .int .u8 0, .int .u8 0, .int .u8 0, .int .u8 0, .int .u8 0, .int .u8 0, .int .u8 0, .int .u8 0, .int .u8 0, .int .u8 0, .int .u8 0, .int .u8 0, .int .u8 0, .int .u8 0, .int .u8 0] = (Wi.irow .u8 (Wi.zr 64)) := rfl
def sg (R S : Int) : Array Value := Wi.irow .u8 (b32 R ++ b32 S)
theorem sg_size (R S : Int) : (sg R S).size = 64 := rfl
theorem z64_size : (Wi.irow .u8 (Wi.zr 64)).size = 64 := by simp [Wi.irow, Wi.zr]
theorem sg_infoG (R S : Int) : (Tryd.prog.info? 30).map (·.size) = some (sg R S).size := by rw [sg_size]; kernel_rfl
theorem sg_infoW (R S : Int) : (Tryd.prog.info? 37).map (·.size) = some (sg R S).size := by rw [sg_size]; kernel_rfl
theorem z64_infoG : (Tryd.prog.info? 30).map (·.size) = some (Wi.irow .u8 (Wi.zr 64)).size := by rw [z64_size]; kernel_rfl
theorem sg_one (R S : Int) : (sg R S).all (·.oneCell') = true := irow_one _
theorem zG (W : World) : (Instr.alloc 30 true (.tuple #[])).run Tryd.prog W = .ok (.pointer (some ⟨W.heap.size, 0, none⟩)) (W.alloc (.cells (Wi.irow .u8 (Wi.zr 64)) 30)) := by kernel_rfl
theorem arr_at (b o c : Nat) (W : World) : (Instr.arrayAt 25 (.slice (some ⟨b, o, none⟩) 32 c)).run Tryd.prog W = .ok (.pointer (some ⟨b, o, none⟩)) W := by kernel_rfl
variable {P : Program} in
theorem results_cell2_row {fn : Func} {p q : Tmp} {ty : TypeId} (h : fn.results = #[.cell p ty, .cell q ty]) (tmps : Array Value) (w : World) (g k : Nat) (t u : TypeId) (cs ds : Array Value) (fr gr : Nat × Nat) (d : TypeDesc)
 (hp : tmps.getD p undef = .pointer (some ⟨g, 0, none⟩)) (hq : tmps.getD q undef = .pointer (some ⟨k, 0, none⟩)) (hg : w.heap[g]? = some (.cells cs t fr)) (hk : w.heap[k]? = some (.cells ds u gr))
 (hu : P.underlying ty = some d) (hd : (match d with | .struct _ | .array _ _ => true | _ => false) = true) (hi : (P.info? ty).map (·.size) = some cs.size) (hj : (P.info? ty).map (·.size) = some ds.size) :
 (results fn tmps).run P w = .ok (.tuple #[.agg cs, .agg ds]) w := by
 have hp' : tmps[p]?.getD undef = .pointer (some ⟨g, 0, none⟩) := by simpa using hp
 have hq' : tmps[q]?.getD undef = .pointer (some ⟨k, 0, none⟩) := by simpa using hq
 simp [results, h, hp', hq', asAddr, run_loadVar_row w g t ty cs fr d hg hu hd hi, run_loadVar_row w k u ty ds gr d hk hu hd hj]
theorem copy_rows {W : World} {g b0 o o0 n dl dc sl sc : Nat} {l c : List Int} {t t' : TypeId} (hg : W.heap[g]? = some (.cells (Wi.irow .u8 l) t (0, 0))) (hs : W.heap[b0]? = some (.cells (Wi.irow .u8 c) t' (0, 0))) (hn : n = Nat.min sl dl) (h1 : o0 + n ≤ c.length) (h2 : o + n ≤ l.length) :
 (Builtin.copy_ #[22, 22] 3 #[.slice (some ⟨g, o, none⟩) dl dc, .slice (some ⟨b0, o0, none⟩) sl sc]).run Tryd.prog W = .ok (goInt n) (W.setRow g (Wi.irow .u8 (l.take o ++ ((c.drop o0).take n ++ l.drop (o + n))))) := by
 have hl : (((c.drop o0).take n).map (Value.int .u8)).length = n := by simp; omega
 have hsrc : ∀ j u, (((c.drop o0).take n).map (Value.int .u8))[j]? = some u → W.cell? ((⟨b0, o0, none⟩ : Addr).add j) = some u := by
  intro j u hu
  have hj : j < n := by have := (List.getElem?_eq_some_iff.1 hu).1; omega
  have e : (⟨b0, o0, none⟩ : Addr).add j = ⟨b0, o0 + j, none⟩ := by simp [Addr.add]
  rw [e, cell_of_row W b0 (o0 + j) _ _ _ hs, ← hu]
  simp [Wi.irow, List.getElem?_take_of_lt hj]
 have hrun := run_copy_row (P := Tryd.prog) W 22 22 3 5 g o dl dc ⟨b0, o0, none⟩ sl sc (Wi.irow .u8 l) t (((c.drop o0).take n).map (Value.int .u8)) Tryd.underlying22 (by kernel_rfl) hg (by rw [hl]; exact hn) hsrc (by rw [hl]; simpa [Wi.irow] using h2) (Wi.ints_one .u8 _)
 rw [hl] at hrun
 rw [hrun]
 simp [Wi.irow, List.map_take, List.map_drop]
theorem wp_copy_op {o : Oper} {a : Act} {w : World} {K : Act → World → Prop} {Q : Exit → Act → World → Prop} (d s : Operand) (dT sT : TypeId) (ho : o.op = .call { callee := .builtin .copy, args := #[d, s], argTypes := #[dT, sT] }) (x y : Value) (hd : a.eval d = x) (hs : a.eval s = y) (v : Value) (w' : World) (hrun : (Builtin.copy_ #[dT, sT] o.type #[x, y]).run Tryd.prog w = .ok v w') (h : K (a.put o.dst v) w') : o.wp Tryd.prog a w K Q := by
 unfold Oper.wp
 simp [execOp, ho, resolve, invoke, builtin, hd, hs, hrun, Result.andThen]
 exact h
theorem ex_fst (a b : List Value) : (a ++ b).toArray.extract 0 (0 + a.toArray.size) = a.toArray := by simp
theorem ex_snd (a b : List Value) {k : Nat} (h : a.length = k) : (a ++ b).toArray.extract k (k + b.toArray.size) = b.toArray := by subst h; simp
theorem sg_app (R S : Int) : sg R S = ((b32 R).map (Value.int .u8) ++ (b32 S).map (Value.int .u8)).toArray := by unfold sg Wi.irow; rw [List.map_append]
theorem sg_fst (R S : Int) : (sg R S).extract 0 (0 + (kb R).size) = kb R := by rw [sg_app, kb_b32]; exact ex_fst _ _
theorem sg_snd (R S : Int) : (sg R S).extract 32 (32 + (kb S).size) = kb S := by rw [sg_app, kb_b32]; exact ex_snd _ _ rfl
set_option maxRecDepth 100000 in
set_option maxHeartbeats 8000000 in
theorem a_halves (R S : Int) : Gives 106 #[.agg (sg R S)] (.tuple #[.agg (kb R), .agg (kb S)]) := by
 intro w
 have rp0 := hp3_0 w (.cells (sg R S) 30) (.cells (kb 0) 25) (.cells (kb 0) 25)
 have rp1 := hp3_1 w (.cells (sg R S) 30) (.cells (kb 0) 25) (.cells (kb 0) 25)
 have rp2 := hp3_2 w (.cells (sg R S) 30) (.cells (kb 0) 25) (.cells (kb 0) 25)
 have hw : Below w.heap.size w (((w.alloc (.cells (sg R S) 30)).alloc (.cells (kb 0) 25)).alloc (.cells (kb 0) 25)) := ((((Below.refl _ _).alloc (Nat.le_refl _) _).alloc (by simp) _).alloc (by simp; omega) _)
 go_enter Tryd.func106, Tryd.ntmps106
 iterate 12 go_step
 try rw [z32]
 generalize (((w.alloc (.cells (sg R S) 30)).alloc (.cells (kb 0) 25)).alloc (.cells (kb 0) 25)) = w0 at *
 go_wp2_with (fail)
 have hb : Below w0.heap.size w0 w0.drew := below_drN (Below.refl _ _) 1
 replace rp0 := keep hb rp0
 replace rp1 := keep hb rp1
 replace rp2 := keep hb rp2
 replace hw := Below.after hw hb
 clear hb
 refine wp_region_noPanic ?_
 refine wp_region_held (S := fun W_ => W_.heap[w.heap.size]? = some (.cells (sg R S) 30 (0, 0))) (by kernel_rfl) ?_
 change wpAnyH _ _ _ _ _ _ _ _ (World.drew _)
 generalize w0.drew = wd1 at *
 refine wpAnyH_take (i := 0) (v := .slice (some ⟨w.heap.size, 0, none⟩) 32 64) rfl (by kernel_rfl) (by kernel_rfl) (by kernel_rfl) (fun _ _ _ h => h) (Or.inl ⟨by rfl, ?y2⟩) (rp0) ?r2
 case y2 =>
  intro w_ hS_
  go_simp
  try with_reducible rfl
 simp only [Act.put, ZPa, ZPc, ZPd, ZPe, ZPf]
 refine wpAnyH_take (i := 1) (v := .pointer (some ⟨w.heap.size, 0, none⟩)) rfl (by kernel_rfl) (by kernel_rfl) (by kernel_rfl) (fun _ _ _ h => h) (Or.inl ⟨by rfl, ?y3⟩) (rp0) ?r3
 case y3 =>
  intro w_ hS_
  go_simp
  rw [arr_at]
  rfl
 simp only [Act.put, ZPa, ZPb, ZPc, ZPd, ZPe, ZPf]
 refine wpAnyH_take (i := 2) (v := .agg (kb R)) rfl (by kernel_rfl) (by kernel_rfl) (by kernel_rfl) (fun _ _ _ h => h) (Or.inl ⟨by rfl, ?y4⟩) (rp0) ?r4
 case y4 =>
  intro w_ hS_
  simp only [List.getElem_toArray, List.getElem_cons_succ, List.getElem_cons_zero]
  exact e_load_part 25 _ (by rfl) (w.heap.size) 0 (by rfl) 30 (sg R S) (0, 0) (kb R) _ (hS_) (sg_fst _ _) Tryd.underlying25 rfl (kb_info _)
 simp only [Act.put, ZPa, ZPb, ZPc, ZPd, ZPe, ZPf]
 refine wpAnyH_take (i := 3) (v := .slice (some ⟨w.heap.size, 32, none⟩) 32 32) rfl (by kernel_rfl) (by kernel_rfl) (by kernel_rfl) (fun _ _ _ h => h) (Or.inl ⟨by rfl, ?y5⟩) (rp0) ?r5
 case y5 =>
  intro w_ hS_
  go_simp
  try with_reducible rfl
 simp only [Act.put, ZPa, ZPb, ZPc, ZPd, ZPe, ZPf]
 refine wpAnyH_take (i := 4) (v := .pointer (some ⟨w.heap.size, 32, none⟩)) rfl (by kernel_rfl) (by kernel_rfl) (by kernel_rfl) (fun _ _ _ h => h) (Or.inl ⟨by rfl, ?y6⟩) (rp0) ?r6
 case y6 =>
  intro w_ hS_
  go_simp
  rw [arr_at]
  rfl
 simp only [Act.put, ZPa, ZPb, ZPc, ZPd, ZPe, ZPf]
 refine wpAnyH_take (i := 5) (v := .agg (kb S)) rfl (by kernel_rfl) (by kernel_rfl) (by kernel_rfl) (fun _ _ _ h => h) (Or.inl ⟨by rfl, ?y7⟩) (rp0) ?r7
 case y7 =>
  intro w_ hS_
  simp only [List.getElem_toArray, List.getElem_cons_succ, List.getElem_cons_zero]
  exact e_load_part 25 _ (by rfl) (w.heap.size) 32 (by rfl) 30 (sg R S) (0, 0) (kb S) _ (hS_) (sg_snd _ _) Tryd.underlying25 rfl (kb_info _)
 simp only [Act.put, ZPa, ZPb, ZPc, ZPd, ZPe, ZPf]
 refine eH_one (k := 6) (fuel := 1) (by kernel_rfl) rfl (by kernel_rfl) (fun K_ hK_ => ?_)
 refine wp_store_row 25 _ _ rfl (w.heap.size + 1) (kb R) rfl rfl 25 _ rp1 (kb_info _) ((kb_size _).trans (kb_size _).symm) (kb_one _) ?_
 have hN_ := setRow_heap wd1 (w.heap.size + 1) _ (kb R) _ _ rp1
 replace rp0 := (setRow_other wd1 (w.heap.size + 1) (w.heap.size) (kb R) (by omega)).trans rp0
 replace rp2 := (setRow_other wd1 (w.heap.size + 1) (w.heap.size + 1 + 1) (kb R) (by omega)).trans rp2
 replace hw := below_setRow hw (show w.heap.size ≤ w.heap.size + 1 by omega) (kb R)
 generalize (wd1.setRow (w.heap.size + 1) (kb R)) = wq8 at *
 clear rp1
 have rp1 := hN_
 clear hN_
 refine hK_ _ _ (rp0) ?_
 simp only [Act.put]
 clear hK_
 refine eH_one (k := 7) (fuel := 0) (by kernel_rfl) rfl (by kernel_rfl) (fun K_ hK_ => ?_)
 refine wp_store_row 25 _ _ rfl (w.heap.size + 1 + 1) (kb S) rfl rfl 25 _ rp2 (kb_info _) ((kb_size _).trans (kb_size _).symm) (kb_one _) ?_
 have hN_ := setRow_heap wq8 (w.heap.size + 1 + 1) _ (kb S) _ _ rp2
 replace rp0 := (setRow_other wq8 (w.heap.size + 1 + 1) (w.heap.size) (kb S) (by omega)).trans rp0
 replace rp1 := (setRow_other wq8 (w.heap.size + 1 + 1) (w.heap.size + 1) (kb S) (by omega)).trans rp1
 replace hw := below_setRow hw (show w.heap.size ≤ w.heap.size + 1 + 1 by omega) (kb S)
 generalize (wq8.setRow (w.heap.size + 1 + 1) (kb S)) = wq9 at *
 clear rp2
 have rp2 := hN_
 clear hN_
 refine hK_ _ _ (rp0) ?_
 simp only [Act.put]
 clear hK_
 refine wpAnyH_done (by kernel_rfl) ?_ _
 refine NoPanic.normal ?_
 go_wp2_with (fail)
 exact bodyPost_ret (v := .tuple #[.agg (kb R), .agg (kb S)]) (results_cell2_row Tryd.results106 _ _ (w.heap.size + 1) (w.heap.size + 1 + 1) _ _ (kb R) (kb S) _ _ _ rfl rfl rp1 rp2 Tryd.underlying25 rfl (kb_info _) (kb_info _)) rfl ⟨rfl, hw⟩
theorem sum_sg (bs : List Int) : Wi.irow .u8 (Wi.sumL bs) = sg (sK bs) (sP bs) := by unfold sg; rw [sK_b32, sP_b32, List.take_append_drop]
set_option maxRecDepth 100000 in
set_option maxHeartbeats 8000000 in
theorem a_joined (R S : Int) : Gives 105 #[.agg (kb R), .agg (kb S)] (.agg (sg R S)) := by
 intro w
 have rp0 := hp3_0 w (.cells (kb R) 25) (.cells (kb S) 25) (.cells (Wi.irow .u8 (Wi.zr 64)) 30)
 have rp1 := hp3_1 w (.cells (kb R) 25) (.cells (kb S) 25) (.cells (Wi.irow .u8 (Wi.zr 64)) 30)
 have rp2 := hp3_2 w (.cells (kb R) 25) (.cells (kb S) 25) (.cells (Wi.irow .u8 (Wi.zr 64)) 30)
 have hw : Below w.heap.size w (((w.alloc (.cells (kb R) 25)).alloc (.cells (kb S) 25)).alloc (.cells (Wi.irow .u8 (Wi.zr 64)) 30)) := ((((Below.refl _ _).alloc (Nat.le_refl _) _).alloc (by simp) _).alloc (by simp; omega) _)
 go_enter Tryd.func105, Tryd.ntmps105
 iterate 12 go_step
 try rw [z64]
 generalize (((w.alloc (.cells (kb R) 25)).alloc (.cells (kb S) 25)).alloc (.cells (Wi.irow .u8 (Wi.zr 64)) 30)) = w0 at *
 go_wp2_with (fail)
 rw [z64]
 have rs := hp1_0 w0 (.cells (Wi.irow .u8 (Wi.zr 64)) 30)
 have hb : Below w0.heap.size w0 (w0.alloc (.cells (Wi.irow .u8 (Wi.zr 64)) 30)) := (Below.refl _ _).alloc (Nat.le_refl _) _
 generalize (w0.alloc (.cells (Wi.irow .u8 (Wi.zr 64)) 30)) = w1 at *
 have lt_s_0 := lt_of_row rp0
 have lt_s_1 := lt_of_row rp1
 have lt_s_2 := lt_of_row rp2
 have sz_s := hw.size
 replace rp0 := keep hb rp0
 replace rp1 := keep hb rp1
 replace rp2 := keep hb rp2
 replace hw := Below.after hw hb
 clear hb
 generalize w0.heap.size = gs at *
 have hb : Below w1.heap.size w1 w1.drew := below_drN (Below.refl _ _) 1
 replace rp0 := keep hb rp0
 replace rp1 := keep hb rp1
 replace rp2 := keep hb rp2
 replace rs := keep hb rs
 replace hw := Below.after hw hb
 clear hb
 refine wp_region_noPanic ?_
 refine wp_region_held (S := fun _ => True) (by kernel_rfl) ?_
 change wpAnyH _ _ _ _ _ _ _ _ (World.drew _)
 generalize w1.drew = wd10 at *
 refine wpAnyH_take (i := 0) (v := .slice (some ⟨gs, 0, none⟩) 64 64) rfl (by kernel_rfl) (by kernel_rfl) (by kernel_rfl) (fun _ _ _ h => h) (Or.inl ⟨by rfl, ?y11⟩) (trivial) ?r11
 case y11 =>
  intro w_ hS_
  go_simp
  try with_reducible rfl
 simp only [Act.put, ZPa, ZPc, ZPd, ZPe, ZPf]
 refine wpAnyH_take (i := 1) (v := .slice (some ⟨w.heap.size, 0, none⟩) 32 32) rfl (by kernel_rfl) (by kernel_rfl) (by kernel_rfl) (fun _ _ _ h => h) (Or.inl ⟨by rfl, ?y12⟩) (trivial) ?r12
 case y12 =>
  intro w_ hS_
  go_simp
  try with_reducible rfl
 simp only [Act.put, ZPa, ZPb, ZPc, ZPd, ZPe, ZPf]
 refine eH_one (k := 2) (fuel := 0) (by kernel_rfl) rfl (by kernel_rfl) (fun K_ hK_ => ?_)
 refine wp_copy_op _ _ _ _ rfl _ _ rfl rfl _ _ (copy_rows (n := 32) (l := Wi.zr 64) (c := b32 R) rs rp0 rfl (show 0 + 32 ≤ 32 by decide) (show 0 + 32 ≤ 64 by decide)) ?_
 rw [show Wi.irow .u8 (List.take 0 (Wi.zr 64) ++ (List.take 32 (List.drop 0 (b32 R)) ++ List.drop (0 + 32) (Wi.zr 64))) = (Wi.irow .u8 (b32 R ++ Wi.zr 32)) from rfl]
 have hN_ := setRow_heap wd10 (gs) _ (Wi.irow .u8 (b32 R ++ Wi.zr 32)) _ _ rs
 replace rp0 := (setRow_other wd10 (gs) (w.heap.size) (Wi.irow .u8 (b32 R ++ Wi.zr 32)) (by omega)).trans rp0
 replace rp1 := (setRow_other wd10 (gs) (w.heap.size + 1) (Wi.irow .u8 (b32 R ++ Wi.zr 32)) (by omega)).trans rp1
 replace rp2 := (setRow_other wd10 (gs) (w.heap.size + 1 + 1) (Wi.irow .u8 (b32 R ++ Wi.zr 32)) (by omega)).trans rp2
 replace hw := below_setRow hw (show w.heap.size ≤ gs by omega) (Wi.irow .u8 (b32 R ++ Wi.zr 32))
 generalize (wd10.setRow (gs) (Wi.irow .u8 (b32 R ++ Wi.zr 32))) = wc13 at *
 clear rs
 have rs := hN_
 clear hN_
 refine hK_ _ _ trivial ?_
 simp only [Act.put, ZPa, ZPb, ZPc, ZPd, ZPe, ZPf]
 clear hK_
 refine wpAnyH_done (by kernel_rfl) ?_ _
 refine NoPanic.normal ?_
 go_wp2_with (fail)
 have hb : Below wc13.heap.size wc13 wc13.drew := below_drN (Below.refl _ _) 1
 replace rp0 := keep hb rp0
 replace rp1 := keep hb rp1
 replace rp2 := keep hb rp2
 replace rs := keep hb rs
 replace hw := Below.after hw hb
 clear hb
 refine wp_region_noPanic ?_
 refine wp_region_held (S := fun _ => True) (by kernel_rfl) ?_
 change wpAnyH _ _ _ _ _ _ _ _ (World.drew _)
 generalize wc13.drew = wd14 at *
 refine wpAnyH_take (i := 0) (v := .slice (some ⟨gs, 32, none⟩) 32 32) rfl (by kernel_rfl) (by kernel_rfl) (by kernel_rfl) (fun _ _ _ h => h) (Or.inl ⟨by rfl, ?y15⟩) (trivial) ?r15
 case y15 =>
  intro w_ hS_
  go_simp
  try with_reducible rfl
 simp only [Act.put, ZPa, ZPc, ZPd, ZPe, ZPf]
 refine wpAnyH_take (i := 1) (v := .slice (some ⟨w.heap.size + 1, 0, none⟩) 32 32) rfl (by kernel_rfl) (by kernel_rfl) (by kernel_rfl) (fun _ _ _ h => h) (Or.inl ⟨by rfl, ?y16⟩) (trivial) ?r16
 case y16 =>
  intro w_ hS_
  go_simp
  try with_reducible rfl
 simp only [Act.put, ZPa, ZPb, ZPc, ZPd, ZPe, ZPf]
 refine eH_one (k := 2) (fuel := 0) (by kernel_rfl) rfl (by kernel_rfl) (fun K_ hK_ => ?_)
 refine wp_copy_op _ _ _ _ rfl _ _ rfl rfl _ _ (copy_rows (n := 32) (l := b32 R ++ Wi.zr 32) (c := b32 S) rs rp1 rfl (show 0 + 32 ≤ 32 by decide) (show 32 + 32 ≤ 64 by decide)) ?_
 rw [show Wi.irow .u8 (List.take 32 (b32 R ++ Wi.zr 32) ++ (List.take 32 (List.drop 0 (b32 S)) ++ List.drop (32 + 32) (b32 R ++ Wi.zr 32))) = (sg R S) from rfl]
 have hN_ := setRow_heap wd14 (gs) _ (sg R S) _ _ rs
 replace rp0 := (setRow_other wd14 (gs) (w.heap.size) (sg R S) (by omega)).trans rp0
 replace rp1 := (setRow_other wd14 (gs) (w.heap.size + 1) (sg R S) (by omega)).trans rp1
 replace rp2 := (setRow_other wd14 (gs) (w.heap.size + 1 + 1) (sg R S) (by omega)).trans rp2
 replace hw := below_setRow hw (show w.heap.size ≤ gs by omega) (sg R S)
 generalize (wd14.setRow (gs) (sg R S)) = wc17 at *
 clear rs
 have rs := hN_
 clear hN_
 refine hK_ _ _ trivial ?_
 simp only [Act.put, ZPa, ZPb, ZPc, ZPd, ZPe, ZPf]
 clear hK_
 refine wpAnyH_done (by kernel_rfl) ?_ _
 refine NoPanic.normal ?_
 go_wp2_with (first | (refine wpList_load_want rfl 25 _ rfl (w.heap.size) rfl 25 (kb R) (0, 0) _ rp0 Tryd.underlying25 rfl (kb_info _) ?_) | (refine wpList_load_want rfl 25 _ rfl (w.heap.size + 1) rfl 25 (kb S) (0, 0) _ rp1 Tryd.underlying25 rfl (kb_info _) ?_) | (refine wpList_load_want rfl 30 _ rfl (w.heap.size + 1 + 1) rfl 30 (Wi.irow .u8 (Wi.zr 64)) (0, 0) _ rp2 Tryd.underlying30 rfl z64_infoG ?_) | (refine wpList_load_want rfl 30 _ rfl (gs) rfl 30 (sg R S) (0, 0) _ rs Tryd.underlying30 rfl (sg_infoG _ _) ?_) | (refine wpList_store_row rfl 30 _ _ rfl (w.heap.size + 1 + 1) (sg R S) rfl rfl 30 _ rp2 (sg_infoG _ _) (z64_size.trans (sg_size _ _).symm) (sg_one _ _) ?_) | fail)
 exact bodyPost_ret (v := .agg (sg R S)) (results_cell_row Tryd.results105 _ _ (w.heap.size + 1 + 1) _ (sg R S) _ _ rfl (setRow_heap _ _ _ _ _ _ rp2) Tryd.underlying30 rfl (sg_infoG _ _)) rfl ⟨rfl, below_setRow hw (by omega) _⟩
set_option maxRecDepth 100000 in
set_option maxHeartbeats 8000000 in
theorem a_parts (sd : List Int) (w : World) (v : Value) (hB : BysK w v sd) : Calls Tryd.prog 59 #[v] w fun e w' => e = .returned (.tuple #[.agg (kb (sec sd)), .agg (kb (sP sd))]) ∧ Below w.heap.size w w' := by
 have cC := a_clamp (sK_key sd)
 have rp0 := hp2_0 w (.cells (kb 0) 25) (.cells (kb 0) 25)
 have rp1 := hp2_1 w (.cells (kb 0) 25) (.cells (kb 0) 25)
 have hw : Below w.heap.size w ((w.alloc (.cells (kb 0) 25)).alloc (.cells (kb 0) 25)) := (((Below.refl _ _).alloc (Nat.le_refl _) _).alloc (by simp) _)
 have hB := hB.keep (show Below w.heap.size w ((w.alloc (.cells (kb 0) 25)).alloc (.cells (kb 0) 25)) from hw)
 go_enter Tryd.func59, Tryd.ntmps59
 iterate 9 go_step
 try rw [z32]
 generalize ((w.alloc (.cells (kb 0) 25)).alloc (.cells (kb 0) 25)) = w0 at *
 go_wp2_with (fail)
 refine (Wi.a_sum sd w0 v hB.1 hB.2.1 (by have := hB.2.2; omega)).mono ?_
 rintro e_ w1 ⟨rfl, hb⟩
 replace rp0 := keep hb rp0
 replace rp1 := keep hb rp1
 replace hB := hB.keep hb
 replace hw := Below.after hw hb
 clear hb
 rw [sum_sg]
 go_wp2_with (first | (refine wpList_store_row rfl 37 _ _ rfl (w1.heap.size) (sg (sK sd) (sP sd)) rfl rfl 37 (Wi.irow .u8 (Wi.zr 64)) (hp1_0 w1 _) (sg_infoW _ _) (z64_size.trans (sg_size _ _).symm) (sg_one _ _) ?_; rw [setRow_alloc_new _ _ _ _ _ _ (by simp)]; refine wpList_stay ?_) | (refine wpList_alloc rfl 37 rfl (Wi.irow .u8 (Wi.zr 64)) zW ?_) | fail)
 unfold WpStay
 try simp only [Act.put]
 have rl4 : (w1.alloc (.cells (sg (sK sd) (sP sd)) 37)).heap[w1.heap.size]? = some (.cells (sg (sK sd) (sP sd)) 37 (0, 0)) := hp1_0 w1 _
 have hb : Below w1.heap.size w1 (w1.alloc (.cells (sg (sK sd) (sP sd)) 37)) := ((Below.refl _ _).alloc (Nat.le_refl _) _)
 generalize (w1.alloc (.cells (sg (sK sd) (sP sd)) 37)) = w2 at *
 have lt_gs_0 := lt_of_row rp0
 have lt_gs_1 := lt_of_row rp1
 have sz_gs := hw.size
 replace rp0 := keep hb rp0
 replace rp1 := keep hb rp1
 replace hB := hB.keep hb
 replace hw := Below.after hw hb
 clear hb
 generalize w1.heap.size = gs at *
 clear w1
 go_wp2_with (fail)
 have hb : Below w2.heap.size w2 w2.drew := below_drN (Below.refl _ _) 1
 replace rp0 := keep hb rp0
 replace rp1 := keep hb rp1
 replace rl4 := keep hb rl4
 replace hB := hB.keep hb
 replace hw := Below.after hw hb
 clear hb
 refine wp_region_noPanic ?_
 refine wp_region_held (S := fun W_ => W_.heap[gs]? = some (.cells (sg (sK sd) (sP sd)) 37 (0, 0))) (by kernel_rfl) ?_
 change wpAnyH _ _ _ _ _ _ _ _ (World.drew _)
 generalize w2.drew = wd18 at *
 refine wpAnyH_take (i := 0) (v := .slice (some ⟨gs, 0, none⟩) 32 64) rfl (by kernel_rfl) (by kernel_rfl) (by kernel_rfl) (fun _ _ _ h => h) (Or.inl ⟨by rfl, ?y19⟩) (rl4) ?r19
 case y19 =>
  intro w_ hS_
  go_simp
  try with_reducible rfl
 simp only [Act.put, ZPa, ZPc, ZPd, ZPe, ZPf]
 refine wpAnyH_take (i := 1) (v := .pointer (some ⟨gs, 0, none⟩)) rfl (by kernel_rfl) (by kernel_rfl) (by kernel_rfl) (fun _ _ _ h => h) (Or.inl ⟨by rfl, ?y20⟩) (rl4) ?r20
 case y20 =>
  intro w_ hS_
  go_simp
  rw [arr_at]
  rfl
 simp only [Act.put, ZPa, ZPb, ZPc, ZPd, ZPe, ZPf]
 refine wpAnyH_take (i := 2) (v := .agg (kb (sK sd))) rfl (by kernel_rfl) (by kernel_rfl) (by kernel_rfl) (fun _ _ _ h => h) (Or.inl ⟨by rfl, ?y21⟩) (rl4) ?r21
 case y21 =>
  intro w_ hS_
  simp only [List.getElem_toArray, List.getElem_cons_succ, List.getElem_cons_zero]
  exact e_load_part 25 _ (by rfl) (gs) 0 (by rfl) 37 (sg (sK sd) (sP sd)) (0, 0) (kb (sK sd)) _ (hS_) (sg_fst _ _) Tryd.underlying25 rfl (kb_info _)
 simp only [Act.put, ZPa, ZPb, ZPc, ZPd, ZPe, ZPf]
 refine wpAnyH_take (i := 4) (v := .slice (some ⟨gs, 32, none⟩) 32 32) rfl (by kernel_rfl) (by kernel_rfl) (by kernel_rfl) (fun _ _ _ h => h) (Or.inl ⟨by rfl, ?y22⟩) (rl4) ?r22
 case y22 =>
  intro w_ hS_
  go_simp
  try with_reducible rfl
 simp only [Act.put, ZPa, ZPb, ZPc, ZPd, ZPe, ZPf]
 refine wpAnyH_take (i := 5) (v := .pointer (some ⟨gs, 32, none⟩)) rfl (by kernel_rfl) (by kernel_rfl) (by kernel_rfl) (fun _ _ _ h => h) (Or.inl ⟨by rfl, ?y23⟩) (rl4) ?r23
 case y23 =>
  intro w_ hS_
  go_simp
  rw [arr_at]
  rfl
 simp only [Act.put, ZPa, ZPb, ZPc, ZPd, ZPe, ZPf]
 refine wpAnyH_take (i := 6) (v := .agg (kb (sP sd))) rfl (by kernel_rfl) (by kernel_rfl) (by kernel_rfl) (fun _ _ _ h => h) (Or.inl ⟨by rfl, ?y24⟩) (rl4) ?r24
 case y24 =>
  intro w_ hS_
  simp only [List.getElem_toArray, List.getElem_cons_succ, List.getElem_cons_zero]
  exact e_load_part 25 _ (by rfl) (gs) 32 (by rfl) 37 (sg (sK sd) (sP sd)) (0, 0) (kb (sP sd)) _ (hS_) (sg_snd _ _) Tryd.underlying25 rfl (kb_info _)
 simp only [Act.put, ZPa, ZPb, ZPc, ZPd, ZPe, ZPf]
 refine eH_one (k := 3) (fuel := 2) (by kernel_rfl) rfl (by kernel_rfl) (fun K_ hK_ => ?_)
 refine wp_call_ex (f := 18) (by kernel_rfl) (ex1e (cC.at _)) (fun v_ wq25 hX_ => ?_)
 obtain ⟨rfl, hb⟩ := hX_
 replace rp0 := keep hb rp0
 replace rp1 := keep hb rp1
 replace rl4 := keep hb rl4
 replace hB := hB.keep hb
 replace hw := Below.after hw hb
 clear hb
 refine hK_ _ _ (rl4) ?_
 simp only [Act.put, ZPa, ZPb, ZPc, ZPd, ZPe, ZPf]
 clear hK_
 refine eH_one (k := 7) (fuel := 1) (by kernel_rfl) rfl (by kernel_rfl) (fun K_ hK_ => ?_)
 refine wp_store_row 25 _ _ rfl (w.heap.size) (kb (sec sd)) rfl rfl 25 _ rp0 (kb_info _) ((kb_size _).trans (kb_size _).symm) (kb_one _) ?_
 have hN_ := setRow_heap wq25 (w.heap.size) _ (kb (sec sd)) _ _ rp0
 replace rp1 := (setRow_other wq25 (w.heap.size) (w.heap.size + 1) (kb (sec sd)) (by omega)).trans rp1
 replace rl4 := (setRow_other wq25 (w.heap.size) (gs) (kb (sec sd)) (by omega)).trans rl4
 replace hw := below_setRow hw (show w.heap.size ≤ w.heap.size by omega) (kb (sec sd))
 generalize (wq25.setRow (w.heap.size) (kb (sec sd))) = wq26 at *
 clear rp0
 have rp0 := hN_
 clear hN_
 refine hK_ _ _ (rl4) ?_
 simp only [Act.put]
 clear hK_
 refine eH_one (k := 8) (fuel := 0) (by kernel_rfl) rfl (by kernel_rfl) (fun K_ hK_ => ?_)
 refine wp_store_row 25 _ _ rfl (w.heap.size + 1) (kb (sP sd)) rfl rfl 25 _ rp1 (kb_info _) ((kb_size _).trans (kb_size _).symm) (kb_one _) ?_
 have hN_ := setRow_heap wq26 (w.heap.size + 1) _ (kb (sP sd)) _ _ rp1
 replace rp0 := (setRow_other wq26 (w.heap.size + 1) (w.heap.size) (kb (sP sd)) (by omega)).trans rp0
 replace rl4 := (setRow_other wq26 (w.heap.size + 1) (gs) (kb (sP sd)) (by omega)).trans rl4
 replace hw := below_setRow hw (show w.heap.size ≤ w.heap.size + 1 by omega) (kb (sP sd))
 generalize (wq26.setRow (w.heap.size + 1) (kb (sP sd))) = wq27 at *
 clear rp1
 have rp1 := hN_
 clear hN_
 refine hK_ _ _ (rl4) ?_
 simp only [Act.put]
 clear hK_
 refine wpAnyH_done (by kernel_rfl) ?_ _
 refine NoPanic.normal ?_
 go_wp2_with (fail)
 exact bodyPost_ret (v := .tuple #[.agg (kb (sec sd)), .agg (kb (sP sd))]) (results_cell2_row Tryd.results59 _ _ (w.heap.size) (w.heap.size + 1) _ _ (kb (sec sd)) (kb (sP sd)) _ _ _ rfl rfl rp0 rp1 Tryd.underlying25 rfl (kb_info _) (kb_info _)) rfl ⟨rfl, hw⟩
end Go.Proofs.YtajaiiidafkijaaDoor
namespace Go.Proofs.YtajaiiidafkijaaDoor
set_option maxRecDepth 100000
open Go.ChangeShapes Go.WideShapes Go.ChangeAt Go.WideMaps Go.WideElems Go.RowKit
theorem gOr : Tryd.prog.globalNamed "pawl/edwards.order" = some 2 := by kernel_rfl
theorem tOr : (Tryd.prog.globals[2]?).map (·.type) = some 52 := by kernel_rfl
theorem cU64 : Tryd.prog.cellsOf 40 = 1 := by kernel_rfl
theorem cW4 : Tryd.prog.cellsOf 52 = 4 := by kernel_rfl
theorem sgn_of_laid {W : World} (h : laidMetH Tryd.prog [("pawl/field.fourfold", Rows.laid_pawl_field_fourfold), ("pawl/field.unit", Rows.laid_pawl_field_unit), ("pawl/edwards.baseX", Rows.laid_pawl_edwards_baseX), ("pawl/edwards.baseY", Rows.laid_pawl_edwards_baseY), ("pawl/edwards.order", Rows.laid_pawl_edwards_order)] W) : Sgn W := by
 rw [MakeChecks.laidMetH_plain _ _ _ (by kernel_rfl)] at h
 obtain ⟨ps, ⟨g0, t0, cs0, f0, p0, q0, hg0, ht0, hv0, hd0, ⟨g1, t1, cs1, f1, p1, q1, hg1, ht1, hv1, hd1, ⟨g2, t2, cs2, f2, p2, q2, hg2, ht2, hv2, hd2, ⟨g3, t3, cs3, f3, p3, q3, hg3, ht3, hv3, hd3, ⟨g4, t4, cs4, f4, p4, q4, hg4, ht4, hv4, hd4, _⟩, _⟩, _⟩, _⟩, _⟩, _, _⟩ := h
 obtain rfl := Option.some.inj (gFour.symm.trans hg0)
 obtain rfl := Option.some.inj (tFour.symm.trans ht0)
 obtain rfl := row5_of Tryd.underlying41 Tryd.underlying40 c1 c5 hd0
 obtain rfl := Option.some.inj (gUnit.symm.trans hg1)
 obtain rfl := Option.some.inj (tUnit.symm.trans ht1)
 obtain ⟨y0, n, hx, hl, hy⟩ := trod_struct1 Tryd.underlying43 hd1
 have hx' : y0 = (.agg [.lit (.int .u64 1718705420411056), .lit (.int .u64 234908883556509), .lit (.int .u64 2233514472574048), .lit (.int .u64 2117202627021982), .lit (.int .u64 765476049583133)], y0.2) := by
  simp only [Rows.laid_pawl_field_unit, Prod.mk.injEq, DataW.agg.injEq, List.cons.injEq, and_true] at hx
  exact Prod.ext hx.1.symm rfl
 rw [hx'] at hy
 rw [cNum] at hl
 have e5 : (cs1.toList.drop 0).take 5 = cs1.toList := by rw [List.drop_zero, ← hl]; exact List.take_length
 have hy2 : DataW.trod (fun _ => ()) Tryd.prog W 0 (fun _ => true) false n 41 cs1.toList = some (.agg [.lit (.int .u64 1718705420411056), .lit (.int .u64 234908883556509), .lit (.int .u64 2233514472574048), .lit (.int .u64 2117202627021982), .lit (.int .u64 765476049583133)], y0.2) := by
  have hy' := hy
  rw [show Tryd.prog.cellsOf _ = 5 from c5, e5] at hy'
  exact hy'
 obtain rfl := row5_of Tryd.underlying41 Tryd.underlying40 c1 c5 hy2
 obtain rfl := Option.some.inj (gBx.symm.trans hg2)
 obtain rfl := Option.some.inj (tBx.symm.trans ht2)
 obtain rfl := rowN_of (ks := [26, 213, 37, 143, 96, 45, 86, 201, 178, 167, 37, 149, 96, 199, 44, 105, 92, 220, 214, 253, 49, 226, 164, 192, 254, 83, 110, 205, 211, 54, 105, 33]) Tryd.underlying25 Tryd.underlying5 cU8 cKey hd2
 obtain rfl := Option.some.inj (gBy.symm.trans hg3)
 obtain rfl := Option.some.inj (tBy.symm.trans ht3)
 obtain rfl := rowN_of (ks := [88, 102, 102, 102, 102, 102, 102, 102, 102, 102, 102, 102, 102, 102, 102, 102, 102, 102, 102, 102, 102, 102, 102, 102, 102, 102, 102, 102, 102, 102, 102, 102]) Tryd.underlying25 Tryd.underlying5 cU8 cKey hd3
 obtain rfl := Option.some.inj (gOr.symm.trans hg4)
 obtain rfl := Option.some.inj (tOr.symm.trans ht4)
 obtain rfl := rowN_of (ks := [6346243789798364141, 1503914060200516822, 0, 1152921504606846976]) Tryd.underlying52 Tryd.underlying40 cU64 cW4 hd4
 have e3 : wd L19 = ([6346243789798364141, 1503914060200516822, 0, 1152921504606846976].map (Value.int .u64)).toArray := by unfold L19; rfl
 have e1 : kb (tx bp) = ([26, 213, 37, 143, 96, 45, 86, 201, 178, 167, 37, 149, 96, 199, 44, 105, 92, 220, 214, 253, 49, 226, 164, 192, 254, 83, 110, 205, 211, 54, 105, 33].map (Value.int .u8)).toArray := by rw [bp_tx]; rfl
 have e2 : kb bp.y = ([88, 102, 102, 102, 102, 102, 102, 102, 102, 102, 102, 102, 102, 102, 102, 102, 102, 102, 102, 102, 102, 102, 102, 102, 102, 102, 102, 102, 102, 102, 102, 102].map (Value.int .u8)).toArray := rfl
 have hU : ∃ t fr, W.heap[4]? = some (.cells ucells t fr) := row_of_var gUnit hv1
 refine ⟨⟨⟨four_of_cells hv0, hU⟩, ?_, ?_⟩, ?_⟩
 ·rw [e1]; exact row_of_var gBx hv2
 ·rw [e2]; exact row_of_var gBy hv3
 ·unfold Ord
  rw [e3]; exact row_of_var gOr hv4
theorem sig_of_list (l : List Int) (hl : l.length = 64) (hz : ∀ z ∈ l, 0 ≤ z ∧ z < 256) : ∃ R S, (l.map (Value.int .u8)).toArray = sg R S ∧ KeyOf (kb R) R ∧ KeyOf (kb S) S := by
 have h1 : (l.take 32).length = 32 := by simp; omega
 have h2 : (l.drop 32).length = 32 := by simp; omega
 have z1 : ∀ z ∈ l.take 32, 0 ≤ z ∧ z < 256 := fun z h => hz z (List.mem_of_mem_take h)
 have z2 : ∀ z ∈ l.drop 32, 0 ≤ z ∧ z < 256 := fun z h => hz z (List.mem_of_mem_drop h)
 refine ⟨_, _, ?_, bval_key _ h1 z1, bval_key _ h2 z2⟩
 unfold sg Wi.irow
 rw [b32_bval _ h1 z1, b32_bval _ h2 z2, List.take_append_drop]
end Go.Proofs.YtajaiiidafkijaaDoor

