import Derived.Test.YtgcpebhjehlacaaDoorHKtl
import Derived.Laws.BitsAllLaws
import Derived.Laws.Externs
import Derived.Test.YtgcpebhjehlacaaDoorHXdc
import Derived.Test.YtgcpebhjehlacaaDoorHUi
namespace Go.Proofs.YtgcpebhjehlacaaDoor
set_option maxRecDepth 100000
open Go Go.RowKit Go.Sort
attribute [local go_sem] setCell_drewN alloc_drewN
/-! What is wrong with a float's bits. -/
theorem run_bits8 (x : Nat) (w : World) : (callFunc 89 #[.float .f64 x]).run Tryd.prog w = .ok (.value (.int .u64 x)) w := by
 rw [run_callFunc_extern Tryd.func89 (by kernel_rfl) (by kernel_rfl) (by kernel_rfl) (e := Extern.MathFloatBits.float64bits) (by kernel_rfl)]; rfl
theorem run_frombits8 (z : Int) (w : World) : (callFunc 67 #[.int .u64 z]).run Tryd.prog w = .ok (.value (.float .f64 z.toNat)) w := by
 rw [run_callFunc_extern Tryd.func67 (by kernel_rfl) (by kernel_rfl) (by kernel_rfl) (e := Extern.MathFloatBits.float64frombits) (by kernel_rfl)]; rfl
theorem abs_bits8 {b : Nat} (hb : b < 18446744073709551616) : (bits .andNot .u64 (b : Int) 9223372036854775808).toNat = b % 9223372036854775808 := by
 rw [show (9223372036854775808 : Int) = ((9223372036854775808 : Nat) : Int) from rfl, u64_andNot_nat b _ hb (by decide), Int.toNat_natCast]
 exact Nat.and_two_pow_sub_one_eq_mod b 63
theorem a_abs8 (b : Nat) (hb : b < 18446744073709551616) (w : World) : Calls Tryd.prog 71 #[.float .f64 b] w fun e w' => e = .returned (.float .f64 (b % 9223372036854775808)) ∧ Below w.heap.size w w' := by
 have r1 := run_bits8 b
 have r2 := run_frombits8 (bits .andNot .u64 (b : Int) 9223372036854775808)
 rw [abs_bits8 hb] at r2
 go_enter Tryd.func71, Tryd.ntmps71
 go_wp2_with (fail)
 go_ret
 exact ⟨rfl, .refl _ _⟩
theorem a_nan8 (b : Nat) (w : World) : Calls Tryd.prog 68 #[.float .f64 b] w fun e w' => e = .returned (.bool (FloatKind.f64.format.order b b != some .eq)) ∧ Below w.heap.size w w' := by
 go_enter Tryd.func68, Tryd.ntmps68
 go_wp2_with (fail)
 go_ret
 exact ⟨rfl, .refl _ _⟩
theorem a_inf8 (b : Nat) (hb : b < 18446744073709551616) (w : World) : Calls Tryd.prog 69 #[.float .f64 b, .int .i64 0] w fun e w' => e = .returned (.bool (FloatKind.f64.format.order (b % 9223372036854775808) 9218868437227405311 == some .gt)) ∧ Below w.heap.size w w' := by
 have cA := a_abs8 b hb w
 go_enter Tryd.func69, Tryd.ntmps69
 go_wp2_with (fail)
 refine cA.mono ?_
 rintro e_ w1 ⟨rfl, hb1⟩
 go_wp2_with (fail)
 go_ret
 exact ⟨rfl, hb1⟩
theorem a_sign8 (b : Nat) (hb : b < 18446744073709551616) (w : World) : Calls Tryd.prog 70 #[.float .f64 b] w fun e w' => e = .returned (.bool (decide (9223372036854775808 ≤ b))) ∧ Below w.heap.size w w' := by
 have r1 := run_bits8 b
 have q0 : decide (wrap64 (b : Int) < 0) = decide (9223372036854775808 ≤ b) := by
  rw [decide_eq_decide]
  unfold wrap64
  omega
 go_enter Tryd.func70, Tryd.ntmps70
 go_wp2_with (fail)
 go_ret
 exact ⟨by rw [← q0]; rfl, .refl _ _⟩
def flD (n m : Nat) : Int :=
 if (FloatKind.f64.format.order n n != some .eq) = true then 84
 else if (FloatKind.f64.format.order (n % 9223372036854775808) 9218868437227405311 == some .gt) = true then 84
 else if (FloatKind.f64.format.order n 0 == some .eq) = true ∧ 9223372036854775808 ≤ n then 84
 else if (FloatKind.f64.format.order (n % 9223372036854775808) (floatOfInt .f64 (m : Int)) == some .gt) = true then 83 else 0
set_option maxRecDepth 100000 in
set_option maxHeartbeats 8000000 in
theorem a_flt8 (w : World) (n m : Nat) (hn : n < 18446744073709551616) : Calls Tryd.prog 51 #[.agg #[.float .f64 (floatOfInt .f64 (m : Int))], .int .u64 (n : Int)] w fun e w' => e = .returned (.int .i64 (flD n m)) ∧ Below w.heap.size w w' := by
 have r0 := hp1_0 w (.cells #[.float .f64 (floatOfInt .f64 (m : Int))] 117)
 have hb : Below w.heap.size w (w.alloc (.cells #[.float .f64 (floatOfInt .f64 (m : Int))] 117)) := (Below.refl _ _).alloc (Nat.le_refl _) _
 have r2 := run_frombits8 (n : Int)
 rw [Int.toNat_natCast] at r2
 have cN := a_nan8 n
 have cI := a_inf8 n hn
 have cS := a_sign8 n hn
 have cA := a_abs8 n hn
 obtain ⟨R, hR⟩ : ∃ R, flD n m = R := ⟨_, rfl⟩
 rw [hR]
 unfold flD at hR
 generalize floatOfInt .f64 (m : Int) = M at *
 generalize hx1 : (FloatKind.f64.format.order n n != some .eq) = x1 at *
 generalize hx2 : (FloatKind.f64.format.order (n % 9223372036854775808) 9218868437227405311 == some .gt) = x2 at *
 generalize hx3 : (FloatKind.f64.format.order n 0 == some .eq) = x3 at *
 generalize hx4 : (FloatKind.f64.format.order (n % 9223372036854775808) M == some .gt) = x4 at *
 generalize hx5 : decide (9223372036854775808 ≤ n) = x5 at *
 generalize n % 9223372036854775808 = N at *
 clear hx1 hx2
 go_enter Tryd.func51, Tryd.ntmps51
 go_upto_region 1 with (fail)
 generalize w.alloc (.cells #[.float .f64 M] 117) = w0 at *
 go_wp2_with (fail)
 refine (cN w0).mono ?_
 rintro e_ w1 ⟨rfl, hb1⟩
 replace r0 := keep hb1 r0
 replace hb := Below.after hb hb1
 clear hb1 cN
 cases x1
 ·go_wp2_with (fail)
  refine (cI w1).mono ?_
  rintro e_ w2 ⟨rfl, hb1⟩
  replace r0 := keep hb1 r0
  replace hb := Below.after hb hb1
  clear hb1 cI
  cases x2
  ·cases x3
   ·go_upto_region 6 with (fail)
    have hbd : Below w2.heap.size w2 w2.drew := below_drN (Below.refl _ _) 1
    have hS0 : (fun W_ : World => Bx W_ w.heap.size #[.float .f64 M]) w2.drew := ⟨_, keep hbd r0⟩
    replace hb := Below.after hb hbd
    refine wp_region_noPanic ?_
    refine wp_region_held (S := fun W_ : World => Bx W_ w.heap.size #[.float .f64 M]) (by kernel_rfl) ?_
    change wpAnyH _ _ _ _ _ _ _ _ (World.drew _)
    clear r0 hbd
    generalize w2.drew = y1 at *
    refine wpAnyH_take (i := 0) (v := ?va) rfl (by kernel_rfl) (by kernel_rfl) (by kernel_rfl) (fun _ _ _ h => h) (Or.inl ⟨by rfl, ?y1⟩) hS0 ?r1
    case y1 =>
     intro w_ hS_
     skip
     go_simp
     try with_reducible rfl
    simp only [Act.put, List.getElem_toArray, List.getElem_cons_zero, List.setIfInBounds_toArray, List.set_cons_succ, List.set_cons_zero]
    refine wpAnyH_take (i := 2) (v := ?vb) rfl (by kernel_rfl) (by kernel_rfl) (by kernel_rfl) (fun _ _ _ h => h) (Or.inl ⟨by rfl, ?y2⟩) hS0 ?r2
    case y2 =>
     intro w_ hS_
     skip
     go_simp
     try with_reducible rfl
    simp only [Act.put, List.getElem_toArray, List.getElem_cons_succ, List.getElem_cons_zero, List.setIfInBounds_toArray, List.set_cons_succ, List.set_cons_zero]
    refine wpAnyH_take (i := 3) (v := .float .f64 M) rfl (by kernel_rfl) (by kernel_rfl) (by kernel_rfl) (fun _ _ _ h => h) (Or.inl ⟨by rfl, ?y3⟩) hS0 ?r3
    case y3 =>
     intro w_ hS_
     obtain ⟨_, h_⟩ := hS_
     have c_ := cell_of_row _ _ 0 _ _ _ h_
     go_simp
     try with_reducible rfl
    simp only [Act.put, List.getElem_toArray, List.getElem_cons_succ, List.getElem_cons_zero, List.setIfInBounds_toArray, List.set_cons_succ, List.set_cons_zero]
    refine wpAnyH_one (k := 1) (fuel := 2) (by kernel_rfl) rfl (by kernel_rfl) (fun K_ hK => ?_)
    refine wp_call_ex (R := fun u w' => u = .float .f64 N ∧ Below y1.heap.size y1 w') (by kernel_rfl) ((cA y1).mono fun e w' h => ⟨_, h.1, rfl, h.2⟩) (fun u y2 hX_ => ?_)
    obtain ⟨rfl, hb2⟩ := hX_
    replace hS0 := hS0.keep hb2
    replace hb := Below.after hb hb2
    refine hK _ _ hS0 ?_
    simp only [Act.put, List.getElem_toArray, List.getElem_cons_succ, List.getElem_cons_zero, List.setIfInBounds_toArray, List.set_cons_succ, List.set_cons_zero]
    clear hK hb2 cA
    refine wpAnyH_take (i := 4) (v := .bool x4) rfl (by kernel_rfl) (by kernel_rfl) (by kernel_rfl) (fun _ _ _ h => h) (Or.inl ⟨by rfl, ?y4⟩) hS0 ?r4
    case y4 =>
     intro w_ hS_
     skip
     go_simp
     try with_reducible rfl
    simp only [Act.put, List.getElem_toArray, List.getElem_cons_succ, List.getElem_cons_zero, List.setIfInBounds_toArray, List.set_cons_succ, List.set_cons_zero]
    refine wpAnyH_take (i := 5) (v := .bool x4) rfl (by kernel_rfl) (by kernel_rfl) (by kernel_rfl) (fun _ _ _ h => h) (Or.inl ⟨by rfl, ?y5⟩) hS0 ?r5
    case y5 =>
     intro w_ hS_
     skip
     go_simp
     try with_reducible rfl
    simp only [Act.put, List.getElem_toArray, List.getElem_cons_succ, List.getElem_cons_zero, List.setIfInBounds_toArray, List.set_cons_succ, List.set_cons_zero]
    refine wpAnyH_done (by kernel_rfl) ?_ _
    refine NoPanic.normal ?_
    cases x4
    ·go_wp2
     go_ret
     exact ⟨by rw [← hR]; simp, hb⟩
    ·go_wp2
     go_ret
     exact ⟨by rw [← hR]; simp, hb⟩
   ·go_wp2_with (fail)
    refine (cS w2).mono ?_
    rintro e_ w3 ⟨rfl, hb1⟩
    replace r0 := keep hb1 r0
    replace hb := Below.after hb hb1
    clear hb1 cS
    cases x5
    ·have hlt : ¬ 9223372036854775808 ≤ n := by simpa using hx5
     go_upto_region 6 with (fail)
     have hbd : Below w3.heap.size w3 w3.drew := below_drN (Below.refl _ _) 1
     have hS0 : (fun W_ : World => Bx W_ w.heap.size #[.float .f64 M]) w3.drew := ⟨_, keep hbd r0⟩
     replace hb := Below.after hb hbd
     refine wp_region_noPanic ?_
     refine wp_region_held (S := fun W_ : World => Bx W_ w.heap.size #[.float .f64 M]) (by kernel_rfl) ?_
     change wpAnyH _ _ _ _ _ _ _ _ (World.drew _)
     clear r0 hbd
     generalize w3.drew = y1 at *
     refine wpAnyH_take (i := 0) (v := ?va) rfl (by kernel_rfl) (by kernel_rfl) (by kernel_rfl) (fun _ _ _ h => h) (Or.inl ⟨by rfl, ?y6⟩) hS0 ?r6
     case y6 =>
      intro w_ hS_
      skip
      go_simp
      try with_reducible rfl
     simp only [Act.put, List.getElem_toArray, List.getElem_cons_zero, List.setIfInBounds_toArray, List.set_cons_succ, List.set_cons_zero]
     refine wpAnyH_take (i := 2) (v := ?vb) rfl (by kernel_rfl) (by kernel_rfl) (by kernel_rfl) (fun _ _ _ h => h) (Or.inl ⟨by rfl, ?y7⟩) hS0 ?r7
     case y7 =>
      intro w_ hS_
      skip
      go_simp
      try with_reducible rfl
     simp only [Act.put, List.getElem_toArray, List.getElem_cons_succ, List.getElem_cons_zero, List.setIfInBounds_toArray, List.set_cons_succ, List.set_cons_zero]
     refine wpAnyH_take (i := 3) (v := .float .f64 M) rfl (by kernel_rfl) (by kernel_rfl) (by kernel_rfl) (fun _ _ _ h => h) (Or.inl ⟨by rfl, ?y8⟩) hS0 ?r8
     case y8 =>
      intro w_ hS_
      obtain ⟨_, h_⟩ := hS_
      have c_ := cell_of_row _ _ 0 _ _ _ h_
      go_simp
      try with_reducible rfl
     simp only [Act.put, List.getElem_toArray, List.getElem_cons_succ, List.getElem_cons_zero, List.setIfInBounds_toArray, List.set_cons_succ, List.set_cons_zero]
     refine wpAnyH_one (k := 1) (fuel := 2) (by kernel_rfl) rfl (by kernel_rfl) (fun K_ hK => ?_)
     refine wp_call_ex (R := fun u w' => u = .float .f64 N ∧ Below y1.heap.size y1 w') (by kernel_rfl) ((cA y1).mono fun e w' h => ⟨_, h.1, rfl, h.2⟩) (fun u y2 hX_ => ?_)
     obtain ⟨rfl, hb2⟩ := hX_
     replace hS0 := hS0.keep hb2
     replace hb := Below.after hb hb2
     refine hK _ _ hS0 ?_
     simp only [Act.put, List.getElem_toArray, List.getElem_cons_succ, List.getElem_cons_zero, List.setIfInBounds_toArray, List.set_cons_succ, List.set_cons_zero]
     clear hK hb2 cA
     refine wpAnyH_take (i := 4) (v := .bool x4) rfl (by kernel_rfl) (by kernel_rfl) (by kernel_rfl) (fun _ _ _ h => h) (Or.inl ⟨by rfl, ?y9⟩) hS0 ?r9
     case y9 =>
      intro w_ hS_
      skip
      go_simp
      try with_reducible rfl
     simp only [Act.put, List.getElem_toArray, List.getElem_cons_succ, List.getElem_cons_zero, List.setIfInBounds_toArray, List.set_cons_succ, List.set_cons_zero]
     refine wpAnyH_take (i := 5) (v := .bool x4) rfl (by kernel_rfl) (by kernel_rfl) (by kernel_rfl) (fun _ _ _ h => h) (Or.inl ⟨by rfl, ?y10⟩) hS0 ?r10
     case y10 =>
      intro w_ hS_
      skip
      go_simp
      try with_reducible rfl
     simp only [Act.put, List.getElem_toArray, List.getElem_cons_succ, List.getElem_cons_zero, List.setIfInBounds_toArray, List.set_cons_succ, List.set_cons_zero]
     refine wpAnyH_done (by kernel_rfl) ?_ _
     refine NoPanic.normal ?_
     cases x4
     ·go_wp2
      go_ret
      exact ⟨by rw [← hR]; simp [hlt], hb⟩
     ·go_wp2
      go_ret
      exact ⟨by rw [← hR]; simp [hlt], hb⟩
    ·have hle : 9223372036854775808 ≤ n := by simpa using hx5
     go_wp2
     go_ret
     exact ⟨by rw [← hR]; simp [hle], hb⟩
  ·go_wp2
   go_ret
   exact ⟨by rw [← hR]; rfl, hb⟩
 ·go_wp2
  go_ret
  exact ⟨by rw [← hR]; rfl, hb⟩
end Go.Proofs.YtgcpebhjehlacaaDoor
namespace Go.Proofs.YtgcpebhjehlacaaDoor
set_option maxRecDepth 100000
open Go Go.RowKit Go.Sort
/-! What decode reads, encode writes again. -/
section
variable (utf : List B → Bool) (flE : Nat → Nat → Int)
theorem it_none {dec : List B → Int → Option Flt3} : ∀ {bs : List (List B)} {fr : Int}, itN dec bs fr = none → ∀ b ∈ bs, ∃ q, dec b q = none
 | [], _, _, b, hb => by simp at hb
 | c :: bs, fr, h, b, hb => by
  rw [itN] at h
  cases hx : dec c (fr + ((en c.length).length : Int)) with
  | some e => rw [hx] at h; cases h
  | none =>
   rw [hx] at h
   rcases List.mem_cons.1 hb with rfl | hb
   ·exact ⟨_, hx⟩
   ·exact it_none h b hb
theorem frs_all {f : VT → Option Flt3} : ∀ {xs : List VT}, (∀ p ∈ xs, f p = none) → frsT f xs = none
 | [], _ => rfl
 | x :: xs, h => by
  rw [frsT, h x (by simp)]
  exact frs_all (fun p hp => h p (by simp [hp]))
theorem map_id {f : List B → List B} {bs : List (List B)} (h : ∀ b ∈ bs, f b = b) : bs.map f = bs := by
 induction bs with
 | nil => rfl
 | cons b bs ih => rw [List.map_cons, h b (by simp), ih (fun c hc => h c (by simp [hc]))]
theorem rdE_none {a E : Int} (h : rdE a E = none) : E = 0 := by
 unfold rdE at h
 split at h
 ·assumption
 ·cases h
theorem ds_none {no k : Int} {l m : Nat} {dec : List B → Int → Option Flt3} {f : Fd} {at_ : Int} (h : dsN utf flE no k l m dec f at_ = none) : f.no = no ∧ f.ty = wtA k ∧ rdN utf flE k l m dec f at_ = none := by
 unfold dsN at h
 split at h
 ·cases h
 ·rename_i h1
  split at h
  ·cases h
  ·rename_i h2
   exact ⟨by omega, by omega, h⟩
theorem sp_back {d : List B} (h : spe (sp d) = 0) : jout (spp (sp d)) = d := by
 rcases sp_cases d with q | q
 ·exact q.2.2.1
 ·rw [h] at q; cases q
theorem fits_two {f : Fd} (h : fits f) (ht : f.ty = 2) : f.num = 0 := by
 unfold fits at h
 rw [if_pos ht] at h
 exact h
theorem fits_not {f : Fd} (h : fits f) (ht : f.ty ≠ 2) : f.dat = [] := by
 unfold fits at h
 rw [if_neg ht] at h
 exact h.1
theorem rt1 : ∀ (ts : List Slt) (fs : List Fd) (at_ deep : Int), gd ts → (∀ f ∈ fs, fits f) → dcT utf flE ts fs at_ = none → fs.length = ts.length ∧ fdT ts (vlT ts fs) = fs ∧ chT utf flE ts (vlT ts fs) deep = none
 | [], [], _, _, _, _, _ => ⟨rfl, by rw [vlT_nil, fdT_nil], by rw [vlT_nil, chT_nil]⟩
 | [], _ :: _, _, _, _, _, h => by rw [dcT] at h; cases h
 | _ :: _, [], _, _, _, _, h => by rw [dcT] at h; cases h
 | .mk no k l m sub :: ts, f :: fs, at_, deep, hg, hf, h => by
  rw [dcT_cons] at h
  obtain ⟨⟨_, hfit, hsub⟩, hgt⟩ := (gd_cons _ _).1 hg
  cases hd : dsT utf flE (.mk no k l m sub) f at_ with
  | some x => rw [hd] at h; cases h
  | none =>
   rw [hd] at h
   obtain ⟨i1, i2, i3⟩ := rt1 ts fs _ deep hgt (fun x hx => hf x (by simp [hx])) h
   have hff := hf f (by simp)
   have e0 : f.no = no ∧ f.ty = wtA k ∧ rdN utf flE k l m (deT utf flE sub) f at_ = none := ds_none utf flE hd
   obtain ⟨e1, e2, e3⟩ := e0
   replace hfit : fitN k (l : Int) (m : Int) sub.length = true := hfit
   replace hsub : (k = 8 ∨ k = 9) → gd sub := hsub
   clear hd h hf hg
   have hm : gd sub → ∀ (b : List B) (fr dp : Int), deT utf flE sub b fr = none → enT sub (mgT sub b) = b ∧ ckT utf flE sub (mgT sub b) dp = none := by
    intro hgs b fr dp hb
    unfold deT decN at hb
    by_cases hz : der (dwh b) = 0
    ·rw [if_neg (by omega)] at hb
     have hee := eer_ok.1 (dec_enc hz).1
     obtain ⟨j1, j2, j3⟩ := rt1 sub (dfs (dwh b)) fr dp hgs (fun x hx => (ech_all _ 0 (by decide) hee.2.1 _ hx).2.2.2) hb
     refine ⟨?_, ?_⟩
     ·show eout (fdT sub (vlT sub (dfs (dwh b)))) = b
      rw [j2]
      exact (dec_enc hz).2
     ·show ckN sub.length (chT utf flE sub) (.mk 0 [] (vlT sub (dfs (dwh b)))) dp = none
      unfold ckN
      rw [if_neg (by show ¬ ((0 : Nat) ≠ 0 ∨ 0 < ([] : List B).length); simp), if_neg (by show ¬ (vlT sub (dfs (dwh b))).length ≠ sub.length; rw [vlT_len _ _ j1.symm]; simp)]
      exact j3
    ·rw [if_pos hz] at hb
     cases hb
   have hone : fdS (.mk no k l m sub) (vlS (.mk no k l m sub) f) = f ∧ slT utf flE (.mk no k l m sub) (vlS (.mk no k l m sub) f) deep = none := by
    obtain ⟨fno, fty, fnum, fdat⟩ := f
    simp only at e1 e2
    subst e1 e2
    by_cases h8 : k = 8
    ·subst h8
     have hn : fnum = 0 := fits_two hff rfl
     subst hn
     unfold rdN at e3
     rw [if_pos rfl] at e3
     obtain ⟨q1, q2⟩ := hm (hsub (.inl rfl)) fdat _ (deep + 1) e3
     refine ⟨?_, ?_⟩
     ·show fdN fno 8 (enT sub) (vlN 8 (mgT sub) ⟨fno, wtA 8, 0, fdat⟩) = _
      unfold fdN vlN
      rw [if_pos rfl, if_pos (.inl rfl), if_pos rfl, q1]
     ·rw [slT_msg utf flE rfl]
      show ckT utf flE sub (vlN 8 (mgT sub) ⟨fno, wtA 8, 0, fdat⟩) (deep + 1) = none
      unfold vlN
      rw [if_pos rfl]
      exact q2
    ·by_cases h9 : k = 9
     ·subst h9
      have hn : fnum = 0 := fits_two hff rfl
      subst hn
      unfold rdN lsN at e3
      rw [if_neg (by decide), if_pos rfl] at e3
      split at e3
      ·cases e3
      ·rename_i hs
       split at e3
       ·cases e3
       ·rename_i hw
        have hs0 : spe (sp fdat) = 0 := by simpa using hs
        have hw0 : wth ((spp (sp fdat)).length : Int) (l : Int) (m : Int) = 0 := by simpa using hw
        have hall := it_none e3
        have evN : vlN 9 (mgT sub) ⟨fno, wtA 9, 0, fdat⟩ = .mk 0 [] ((spp (sp fdat)).map (mgT sub)) := by
         unfold vlN
         rw [if_neg (show ¬ (9 : Int) = 8 by decide), if_pos (show (9 : Int) = 9 from rfl)]
        refine ⟨?_, ?_⟩
        ·show fdN fno 9 (enT sub) (vlN 9 (mgT sub) ⟨fno, wtA 9, 0, fdat⟩) = _
         rw [evN]
         unfold fdN
         rw [if_pos (show (9 : Int) = 8 ∨ (9 : Int) = 9 from .inr rfl), if_neg (show ¬ (9 : Int) = 8 by decide), if_pos (show (9 : Int) = 9 from rfl)]
         show Fd.mk fno (wtA 9) 0 (jout (((spp (sp fdat)).map (mgT sub)).map (enT sub))) = _
         rw [List.map_map, map_id (fun b hb => by obtain ⟨q, hq⟩ := hall b hb; exact (hm (hsub (.inr rfl)) b q deep hq).1), sp_back hs0]
        ·rw [slT_lst utf flE rfl]
         show (if _ then _ else if _ then _ else _) = none
         have ev : vlS (.mk fno 9 l m sub) ⟨fno, wtA 9, 0, fdat⟩ = .mk 0 [] ((spp (sp fdat)).map (mgT sub)) := evN
         rw [ev]
         rw [if_neg (by show ¬ ((0 : Nat) ≠ 0 ∨ 0 < ([] : List B).length); simp), if_neg (by show ¬ wth ((((spp (sp fdat)).map (mgT sub)).length : Nat) : Int) (l : Int) (m : Int) ≠ 0; rw [List.length_map, hw0]; simp)]
         refine frs_all (fun p hp => ?_)
         obtain ⟨b, hb, rfl⟩ := List.mem_map.1 hp
         obtain ⟨q, hq⟩ := hall b hb
         exact (hm (hsub (.inr rfl)) b q _ hq).2
     ·unfold rdN at e3
      rw [if_neg h8, if_neg h9] at e3
      have hE := rdE_none e3
      have ev : vlS (.mk fno k l m sub) ⟨fno, wtA k, fnum, fdat⟩ = .mk fnum fdat [] := by
       show vlN k (mgT sub) ⟨fno, wtA k, fnum, fdat⟩ = _
       unfold vlN
       rw [if_neg h8, if_neg h9]
      rw [ev]
      refine ⟨?_, ?_⟩
      ·show fdN fno k (enT sub) (.mk fnum fdat []) = _
       unfold fdN
       rw [if_neg (show ¬ (k = 8 ∨ k = 9) by omega), if_neg h8, if_neg h9]
       rfl
      ·rw [slT_pl utf flE (t := .mk fno k l m sub) h8 h9]
       show pck deep fno (isB k) fnum fdat.length 0 (plE8 utf flE k l m (.mk fnum fdat [])) = none
       have hE2 : plE8 utf flE k l m (.mk fnum fdat []) = 0 := hE
       rw [hE2]
       have hbad : pbad (isB k) fnum fdat.length 0 = false := by
        have hk := fit_cases hfit
        unfold pbad isB
        by_cases hb : k = 5 ∨ k = 6
        ·have hw2 : wtA k = 2 := by rcases hb with hb | hb <;> rw [hb] <;> rfl
         have hn : fnum = 0 := fits_two hff hw2
         subst hn
         rcases hb with hb | hb <;> subst hb <;> simp
        ·have hw2 : wtA k ≠ 2 := by
          rcases hk with ⟨q, _⟩ | ⟨q, _⟩ | ⟨q, _⟩ | q | ⟨q, _⟩ | q | q | ⟨q, _⟩
          ·rw [show k = 1 from q]; decide
          ·rw [show k = 2 from q]; decide
          ·rw [show k = 3 from q]; decide
          ·rw [show k = 4 from q]; decide
          ·exact absurd q hb
          ·rw [show k = 7 from q]; decide
          ·exact absurd q h8
          ·exact absurd q h9
         have hn : fdat = [] := fits_not hff hw2
         subst hn
         have h5 : (k == 5) = false := by simp; omega
         have h6 : (k == 6) = false := by simp; omega
         rw [h5, h6]
         simp
       unfold pck
       rw [hbad]
       rfl
   refine ⟨by rw [List.length_cons, List.length_cons, i1], ?_, ?_⟩
   ·rw [vlT_cons, fdT_cons, hone.1, i2]
   ·rw [vlT_cons, chT_cons, hone.2]
    exact i3
theorem dec_back {ts : List Slt} (hg : gd ts) {b : List B} {fr : Int} (deep : Int) (hb : deT utf flE ts b fr = none) : enT ts (mgT ts b) = b ∧ ckT utf flE ts (mgT ts b) deep = none ∧ der (dwh b) = 0 ∧ (dfs (dwh b)).length = ts.length := by
 unfold deT decN at hb
 by_cases hz : der (dwh b) = 0
 ·rw [if_neg (by omega)] at hb
  have hee := eer_ok.1 (dec_enc hz).1
  obtain ⟨j1, j2, j3⟩ := rt1 utf flE ts (dfs (dwh b)) fr deep hg (fun x hx => (ech_all _ 0 (by decide) hee.2.1 _ hx).2.2.2) hb
  refine ⟨?_, ?_, hz, j1⟩
  ·show eout (fdT ts (vlT ts (dfs (dwh b)))) = b
   rw [j2]
   exact (dec_enc hz).2
  ·show ckN ts.length (chT utf flE ts) (.mk 0 [] (vlT ts (dfs (dwh b)))) deep = none
   unfold ckN
   rw [if_neg (by show ¬ ((0 : Nat) ≠ 0 ∨ 0 < ([] : List B).length); simp), if_neg (by show ¬ (vlT ts (dfs (dwh b))).length ≠ ts.length; rw [vlT_len _ _ j1.symm]; simp)]
   exact j3
 ·rw [if_pos hz] at hb
  cases hb
end
end Go.Proofs.YtgcpebhjehlacaaDoor
namespace Go.Proofs.YtgcpebhjehlacaaDoor
set_option maxRecDepth 100000
open Go Go.RowKit Go.Sort
/-! What encode writes, decode reads again, within the schema's range. -/
inductive NmT : VT → Prop
 | mk (n : Nat) (d : List B) (ps : List VT) (hn : n < 18446744073709551616) (hd : d.length ≤ 140737488351232) (h : ∀ p ∈ ps, NmT p) : NmT (.mk n d ps)
theorem VtM.nm {W : World} {S : Nat → Prop} {x : VR} {X : VT} (h : VtM W S x X) : NmT X := by
 induction h with
 | mk x bs xs ps hn hdl hbl hd hdc hds hpl hxl hpc hpm hps hP hs ih =>
  refine .mk _ _ _ hn hbl (fun p hp => ?_)
  obtain ⟨i, hi, e⟩ := List.getElem_of_mem hp
  have := ih i hi
  rw [gvt, List.getD_eq_getElem?_getD, List.getElem?_eq_getElem hi] at this
  rw [← e]
  exact this
theorem enm {n m : Nat} (h : n ≤ m) : (en n).length ≤ (en m).length :=
 (en_len n _ (en_pos m)).2 (Nat.lt_of_le_of_lt h ((en_len m _ (en_pos m)).1 (Nat.le_refl _)))
theorem ri_itm8 {p : List B} (hp : p.length < 18446744073709551616) (r : List B) : ri (itm p ++ r) = .ok p (itm p).length := by
 have h := rd0_en hp (p ++ r)
 have e : itm p ++ r = en p.length ++ (p ++ r) := by rw [itm, List.append_assoc]
 rw [e, ri_of h, if_neg (by rw [List.length_append, List.length_append]; omega), List.drop_left, List.take_left, itm_len]
theorem itm_ne8 (p r : List B) : itm p ++ r ≠ [] := by
 intro h
 have h1 := congrArg List.length h
 rw [List.length_append, itm_len, List.length_nil] at h1
 have := en_pos p.length
 omega
theorem spl_jn8 : ∀ (ps : List (List B)) (p c : Nat), c + ps.length ≤ 4096 → (∀ x ∈ ps, x.length < 18446744073709551616) → spl (jn ps).length p c (jn ps) = .ok ps
 | [], p, c, _, _ => rfl
 | x :: l, p, c, hc, hx => by
  rw [List.length_cons] at hc
  have h1 := ri_itm8 (hx x (by simp)) (jn l)
  have h2 := spl_step (p := p) (c := c) (itm_ne8 x (jn l)) (by omega) h1
  rw [List.drop_left] at h2
  rw [jn, h2, spl_jn8 l _ _ (by omega) (fun y hy => hx y (by simp [hy]))]
  rfl
theorem gp_mem8 {ps : List (List B)} {x : List B} (h : x ∈ ps) : ∃ i, i < ps.length ∧ gp ps i = x := by
 obtain ⟨i, hi, e⟩ := List.getElem_of_mem h
 exact ⟨i, hi, by rw [gp, List.getD_eq_getElem?_getD, List.getElem?_eq_getElem hi]; exact e⟩
theorem sp_jn8 {ps : List (List B)} (h1 : ps.length ≤ 4096) (h2 : (jn ps).length ≤ 4194304) (hx : ∀ i, i < ps.length → (gp ps i).length ≤ 140737488351232) : sp (jn ps) = .ok ps := by
 rw [sp, if_neg (by omega), spl_jn8 ps 0 0 (by omega) (fun x h => by obtain ⟨i, hi, rfl⟩ := gp_mem8 h; have := hx i hi; omega)]
theorem wth0 {n l m : Int} (h : wth n l m = 0) : l ≤ n ∧ n ≤ m := by
 unfold wth at h
 split at h
 ·cases h
 ·omega
theorem cpd_small {n : Nat} (h : cpd n ≤ 4194304) : cpd n = n := by
 unfold cpd at h ⊢
 split at h
 ·omega
 ·rename_i q
  rw [if_neg q]
theorem cpd_down (n : Nat) : cpd n ≤ n := by unfold cpd; split <;> omega
theorem frm_down (n : Nat) : frm n ≤ n + (en n).length := cpd_down _
theorem frm_small {n : Nat} (h : frm n ≤ 4194304) : frm n = n + (en n).length := cpd_small h
theorem pck_none {deep no : Int} {b : Bool} {n dl pl : Nat} {E : Int} (h : pck deep no b n dl pl E = none) : pl = 0 ∧ (b = true → n = 0) ∧ (b = false → dl = 0) ∧ E = 0 := by
 unfold pck at h
 cases hb : pbad b n dl pl with
 | true => rw [hb] at h; cases h
 | false =>
  rw [hb] at h
  by_cases hE : E = 0
  ·unfold pbad at hb
   refine ⟨?_, ?_, ?_, hE⟩
   ·simp at hb; omega
   ·rintro rfl; simp at hb; omega
   ·rintro rfl; simp at hb; omega
  ·rw [if_neg hE] at h; cases h
section
variable (utf : List B → Bool) (flE : Nat → Nat → Int)
def Sb (sub : List Slt) : Prop := ∀ (p : VT) (dp fr : Int), ckT utf flE sub p dp = none → NmT p → (spL sub 0 0).2 ≤ 4194304 → (spL sub 0 0).1 ≤ (enT sub p).length ∧ (enT sub p).length ≤ (spL sub 0 0).2 ∧ deT utf flE sub (enT sub p) fr = none ∧ mgT sub (enT sub p) = p
def Sv (k : Int) (l m : Nat) (sub : List Slt) (f : Fd) (x : VT) : Prop := fits f ∧ Fok f ∧ (slsz k l m (spL sub 0 0)).1 ≤ (fvl f).length ∧ (fvl f).length ≤ (slsz k l m (spL sub 0 0)).2 ∧ (∀ at_, rdN utf flE k l m (deT utf flE sub) f at_ = none) ∧ vlN k (mgT sub) f = x
theorem sv_plain {no k : Int} {l m : Nat} {sub : List Slt} {x : VT} {deep : Int} (hno : 1 ≤ no ∧ no ≤ 536870911) (hfit : fitN k (l : Int) (m : Int) sub.length = true) (h8 : k ≠ 8) (h9 : k ≠ 9) (h : slT utf flE (.mk no k l m sub) x deep = none) (hx : NmT x) (hs : (slsz k l m (spL sub 0 0)).2 ≤ 4194304) : Sv utf flE k l m sub (fdS (.mk no k l m sub) x) x := by
 rw [slT_pl utf flE (t := .mk no k l m sub) h8 h9] at h
 obtain ⟨h1, h2, h3, h4⟩ := pck_none h
 replace h4 : plE8 utf flE k l m x = 0 := h4
 replace h2 : isB k = true → x.num = 0 := h2
 replace h3 : isB k = false → x.dat.length = 0 := h3
 obtain ⟨n, d, ps⟩ := x
 obtain rfl : ps = [] := List.eq_nil_of_length_eq_zero h1
 cases hx with
 | mk _ _ _ hn hd _ =>
 have ef : fdS (.mk no k l m sub) (.mk n d []) = ⟨no, wtA k, n, d⟩ := by
  show fdN no k (enT sub) (.mk n d []) = _
  unfold fdN
  rw [if_neg (show ¬ (k = 8 ∨ k = 9) by omega), if_neg h8, if_neg h9]
  rfl
 rw [ef]
 have ev : vlN k (mgT sub) ⟨no, wtA k, n, d⟩ = .mk n d [] := by unfold vlN; rw [if_neg h8, if_neg h9]
 have er : ∀ at_, rdN utf flE k l m (deT utf flE sub) ⟨no, wtA k, n, d⟩ at_ = none := by
  intro at_
  unfold rdN
  rw [if_neg h8, if_neg h9]
  show rdE at_ (plE8 utf flE k l m (.mk n d [])) = none
  rw [h4]
  rfl
 have ok : Fok ⟨no, wtA k, n, d⟩ := ⟨hn, hd, by show _ ≤ no; omega, by show no ≤ _; omega⟩
 refine ⟨?_, ok, ?_⟩
 ·unfold fits
  by_cases hb : k = 5 ∨ k = 6
  ·have hw2 : wtA k = 2 := by rcases hb with hb | hb <;> rw [hb] <;> rfl
   rw [if_pos hw2]
   exact h2 (by rcases hb with hb | hb <;> rw [hb] <;> rfl)
  ·have hisb : isB k = false := by unfold isB; simp; omega
   have hd0 : d = [] := List.eq_nil_of_length_eq_zero (h3 hisb)
   have hk := fit_cases hfit
   have hw2 : wtA k ≠ 2 := by
    rcases hk with ⟨q, _⟩ | ⟨q, _⟩ | ⟨q, _⟩ | q | ⟨q, _⟩ | q | q | ⟨q, _⟩
    ·rw [q]; decide
    ·rw [q]; decide
    ·rw [q]; decide
    ·rw [q]; decide
    ·exact absurd q hb
    ·rw [q]; decide
    ·exact absurd q h8
    ·exact absurd q h9
   rw [if_neg hw2]
   refine ⟨hd0, fun ht => ?_⟩
   replace ht : wtA k = 5 := ht
   rcases hk with ⟨q, _⟩ | ⟨q, _, q2⟩ | ⟨q, _⟩ | q | ⟨q, _⟩ | q | q | ⟨q, _⟩
   ·subst q; exact absurd ht (by decide)
   ·subst q
    have h6 : wth (n : Int) (l : Int) (m : Int) = 0 := h4
    have := wth0 h6
    show n ≤ 4294967295
    omega
   ·subst q; exact absurd ht (by decide)
   ·subst q; exact absurd ht (by decide)
   ·exact absurd q hb
   ·subst q; exact absurd ht (by decide)
   ·exact absurd q h8
   ·exact absurd q h9
 ·have hk := fit_cases hfit
  rcases hk with ⟨q, _⟩ | ⟨q, _, q2⟩ | ⟨q, _⟩ | q | ⟨q, _⟩ | q | q | ⟨q, _⟩
  ·subst q
   have h6 : wth (n : Int) (l : Int) (m : Int) = 0 := h4
   have := wth0 h6
   exact ⟨enm (show l ≤ n by omega), enm (show n ≤ m by omega), er, ev⟩
  ·subst q
   have e4 : (fvl ⟨no, wtA 2, n, d⟩).length = 4 := fx_len 4 n
   exact ⟨by rw [e4]; exact Nat.le_refl 4, by rw [e4]; exact Nat.le_refl 4, er, ev⟩
  ·subst q
   have e4 : (fvl ⟨no, wtA 3, n, d⟩).length = 8 := fx_len 8 n
   exact ⟨by rw [e4]; exact Nat.le_refl 8, by rw [e4]; exact Nat.le_refl 8, er, ev⟩
  ·subst q
   have h6 : wth (n : Int) 0 1 = 0 := h4
   have := wth0 h6
   have e1 : (fvl ⟨no, wtA 4, n, d⟩).length = 1 := by
    show (en n).length = 1
    rw [en_lo (by omega)]
    rfl
   exact ⟨by rw [e1]; exact Nat.le_refl 1, by rw [e1]; exact Nat.le_refl 1, er, ev⟩
  ·have hb5 : wth (d.length : Int) (l : Int) (m : Int) = 0 := by
    rcases q with q | q
    ·subst q; exact h4
    ·subst q
     unfold plE8 at h4
     rw [if_neg (show ¬ (6 : Int) = 5 by decide), if_pos (show (6 : Int) = 6 from rfl)] at h4
     split at h4
     ·rename_i hne; exact absurd h4 hne
     ·rename_i hne; exact Decidable.not_not.1 hne
   have hw := wth0 hb5
   have hfv : (fvl ⟨no, wtA k, n, d⟩).length = (en d.length).length + d.length := by
    have hw2 : wtA k = 2 := by rcases q with q | q <;> rw [q] <;> rfl
    rw [hw2]
    exact itm_len d
   have hsz : slsz k l m (spL sub 0 0) = (frm l, frm m) := by
    rcases q with q | q <;> subst q <;> rfl
   rw [hsz] at hs ⊢
   have hm := frm_small (show frm m ≤ 4194304 from hs)
   have hl := frm_down l
   have m1 := enm (show l ≤ d.length by omega)
   have m2 := enm (show d.length ≤ m by omega)
   exact ⟨by show frm l ≤ _; omega, by show _ ≤ frm m; omega, er, ev⟩
  ·subst q
   have e4 : (fvl ⟨no, wtA 7, n, d⟩).length = 8 := fx_len 8 n
   exact ⟨by rw [e4]; exact Nat.le_refl 8, by rw [e4]; exact Nat.le_refl 8, er, ev⟩
  ·exact absurd q h8
  ·exact absurd q h9
theorem sv_msg {no : Int} {l m : Nat} {sub : List Slt} {x : VT} {deep : Int} (hno : 1 ≤ no ∧ no ≤ 536870911) (hsub : Sb utf flE sub) (h : slT utf flE (.mk no 8 l m sub) x deep = none) (hx : NmT x) (hs : (slsz 8 l m (spL sub 0 0)).2 ≤ 4194304) : Sv utf flE 8 l m sub (fdS (.mk no 8 l m sub) x) x := by
 rw [slT_msg utf flE rfl] at h
 replace h : ckT utf flE sub x (deep + 1) = none := h
 have hm := frm_small (show frm (spL sub 0 0).2 ≤ 4194304 from hs)
 have hs2 : frm (spL sub 0 0).2 ≤ 4194304 := hs
 obtain ⟨b1, b2, _, b4⟩ := hsub x _ 0 h hx (by omega)
 have b3 := fun fr => (hsub x _ fr h hx (by omega)).2.2.1
 have ef : fdS (.mk no 8 l m sub) x = ⟨no, 2, 0, enT sub x⟩ := msg_field (.mk no 8 l m sub) rfl x
 rw [ef]
 have hfv : (fvl ⟨no, 2, 0, enT sub x⟩).length = (en (enT sub x).length).length + (enT sub x).length := itm_len _
 have hd := frm_down (spL sub 0 0).1
 have m1 := enm b1
 have m2 := enm b2
 refine ⟨rfl, ⟨by show 0 < 18446744073709551616; decide, by show (enT sub x).length ≤ _; omega, by show _ ≤ no; omega, by show no ≤ _; omega⟩, by show frm (spL sub 0 0).1 ≤ _; omega, by show _ ≤ frm (spL sub 0 0).2; omega, fun at_ => ?_, ?_⟩
 ·unfold rdN
  rw [if_pos rfl]
  exact b3 _
 ·unfold vlN
  rw [if_pos rfl]
  exact b4
theorem it_all {dec : List B → Int → Option Flt3} : ∀ {bs : List (List B)} (fr : Int), (∀ b ∈ bs, ∀ q, dec b q = none) → itN dec bs fr = none
 | [], _, _ => rfl
 | b :: bs, fr, h => by
  rw [itN, h b (by simp)]
  exact it_all _ (fun c hc => h c (by simp [hc]))
theorem jn_bd8 {en_ : VT → List B} {A C : Nat} : ∀ (ps : List VT), (∀ p ∈ ps, A ≤ (itm (en_ p)).length ∧ (itm (en_ p)).length ≤ C) → A * ps.length ≤ (jn (ps.map en_)).length ∧ (jn (ps.map en_)).length ≤ C * ps.length
 | [], _ => by simp [jn]
 | p :: ps, h => by
  have h1 := h p (by simp)
  have h2 := jn_bd8 ps (fun q hq => h q (by simp [hq]))
  rw [List.map_cons, jn, List.length_append, List.length_cons, Nat.mul_succ, Nat.mul_succ]
  omega
theorem map_back {f : VT → List B} {g : List B → VT} : ∀ {ps : List VT}, (∀ p ∈ ps, g (f p) = p) → (ps.map f).map g = ps
 | [], _ => rfl
 | p :: ps, h => by rw [List.map_cons, List.map_cons, h p (by simp), map_back (fun q hq => h q (by simp [hq]))]
theorem sv_list {no : Int} {l m : Nat} {sub : List Slt} {x : VT} {deep : Int} (hno : 1 ≤ no ∧ no ≤ 536870911) (hm4 : m ≤ 4096) (hsub : Sb utf flE sub) (h : slT utf flE (.mk no 9 l m sub) x deep = none) (hx : NmT x) (hs : (slsz 9 l m (spL sub 0 0)).2 ≤ 4194304) : Sv utf flE 9 l m sub (fdS (.mk no 9 l m sub) x) x := by
 rw [slT_lst utf flE rfl] at h
 replace h : (if x.num ≠ 0 ∨ 0 < x.dat.length then some (⟨deep, no, 84⟩ : Flt3) else if wth (x.parts.length : Int) (l : Int) (m : Int) ≠ 0 then some ⟨deep, no, wth (x.parts.length : Int) (l : Int) (m : Int)⟩ else frsT (fun p => ckT utf flE sub p (deep + 1)) x.parts) = none := h
 split at h
 ·cases h
 rename_i h0
 split at h
 ·cases h
 rename_i h1
 obtain ⟨n, d, ps⟩ := x
 obtain rfl : n = 0 := Nat.eq_zero_of_not_pos (fun q => h0 (.inl (by show n ≠ 0; omega)))
 obtain rfl : d = [] := List.eq_nil_of_length_eq_zero (Nat.eq_zero_of_not_pos (fun q => h0 (.inr q)))
 have hall := frs_none h
 have hw := wth0 (show wth (ps.length : Int) (l : Int) (m : Int) = 0 from Decidable.not_not.1 h1)
 cases hx with
 | mk _ _ _ _ _ hnp =>
 have hs2 : frm (cpd (frm (spL sub 0 0).2 * m)) ≤ 4194304 := hs
 have hf1 := frm_small hs2
 have hc1 := cpd_small (show cpd (frm (spL sub 0 0).2 * m) ≤ 4194304 by omega)
 rw [hc1] at hf1 hs2
 have hitem : ∀ p ∈ ps, (frm (spL sub 0 0).1 ≤ (itm (enT sub p)).length ∧ (itm (enT sub p)).length ≤ frm (spL sub 0 0).2) ∧ (enT sub p).length ≤ 4194304 ∧ (∀ q, deT utf flE sub (enT sub p) q = none) ∧ mgT sub (enT sub p) = p := by
  intro p hp
  have hpos : 1 ≤ m := by
   have : 0 < ps.length := List.length_pos_of_mem hp
   omega
  have hle : frm (spL sub 0 0).2 * 1 ≤ frm (spL sub 0 0).2 * m := Nat.mul_le_mul_left _ hpos
  have hS2 : frm (spL sub 0 0).2 ≤ 4194304 := by omega
  have hS3 := frm_small hS2
  obtain ⟨b1, b2, _, b4⟩ := hsub p _ 0 (hall p hp) (hnp p hp) (by omega)
  have m1 := enm b1
  have m2 := enm b2
  have hd := frm_down (spL sub 0 0).1
  rw [itm_len]
  exact ⟨⟨by omega, by omega⟩, by omega, fun q => (hsub p _ q (hall p hp) (hnp p hp) (by omega)).2.2.1, b4⟩
 obtain ⟨j1, j2⟩ := jn_bd8 ps (fun p hp => (hitem p hp).1)
 have k1 : frm (spL sub 0 0).1 * l ≤ frm (spL sub 0 0).1 * ps.length := Nat.mul_le_mul_left _ (by omega)
 have k2 : frm (spL sub 0 0).2 * ps.length ≤ frm (spL sub 0 0).2 * m := Nat.mul_le_mul_left _ (by omega)
 have hjo : jout (ps.map (enT sub)) = jn (ps.map (enT sub)) := if_neg (by unfold jbad; rw [List.length_map]; omega)
 have ef : fdS (.mk no 9 l m sub) (.mk 0 [] ps) = ⟨no, 2, 0, jn (ps.map (enT sub))⟩ := (lst_field (.mk no 9 l m sub) rfl (.mk 0 [] ps)).trans (by rw [← hjo]; rfl)
 rw [ef]
 have hsp : sp (jn (ps.map (enT sub))) = .ok (ps.map (enT sub)) := sp_jn8 (by rw [List.length_map]; omega) (by omega) (fun i hi => by
  have hm : gp (ps.map (enT sub)) i ∈ ps.map (enT sub) := by
   rw [gp, List.getD_eq_getElem?_getD, List.getElem?_eq_getElem hi]
   exact List.getElem_mem hi
  obtain ⟨p, hp, e⟩ := List.mem_map.1 hm
  rw [← e]
  have := (hitem p hp).2.1
  omega)
 have hfv : (fvl ⟨no, 2, 0, jn (ps.map (enT sub))⟩).length = (en (jn (ps.map (enT sub))).length).length + (jn (ps.map (enT sub))).length := itm_len _
 have hd2 := frm_down (cpd (frm (spL sub 0 0).1 * l))
 have hd3 := cpd_down (frm (spL sub 0 0).1 * l)
 have m1 := enm (show cpd (frm (spL sub 0 0).1 * l) ≤ (jn (ps.map (enT sub))).length by omega)
 have m2 := enm (show (jn (ps.map (enT sub))).length ≤ frm (spL sub 0 0).2 * m by omega)
 refine ⟨rfl, ⟨by show 0 < 18446744073709551616; decide, by show (jn (ps.map (enT sub))).length ≤ _; omega, by show _ ≤ no; omega, by show no ≤ _; omega⟩, by show frm (cpd (frm (spL sub 0 0).1 * l)) ≤ _; omega, by show _ ≤ frm (cpd (frm (spL sub 0 0).2 * m)); rw [hc1]; omega, fun at_ => ?_, ?_⟩
 ·unfold rdN
  rw [if_neg (show ¬ (9 : Int) = 8 by decide), if_pos (show (9 : Int) = 9 from rfl)]
  show lsN l m (deT utf flE sub) (jn (ps.map (enT sub))) at_ _ = none
  unfold lsN
  rw [hsp]
  rw [if_neg (by show ¬ ((0 : Int) ≠ 0); simp), if_neg (by show ¬ (wth (((ps.map (enT sub)).length : Nat) : Int) (l : Int) (m : Int) ≠ 0); rw [List.length_map]; exact h1)]
  refine it_all _ (fun b hb q => ?_)
  obtain ⟨p, hp, e⟩ := List.mem_map.1 hb
  rw [← e]
  exact (hitem p hp).2.2.1 q
 ·unfold vlN
  rw [if_neg (show ¬ (9 : Int) = 8 by decide), if_pos (show (9 : Int) = 9 from rfl)]
  show VT.mk 0 [] ((spp (sp (jn (ps.map (enT sub))))).map (mgT sub)) = _
  rw [hsp]
  show VT.mk 0 [] ((ps.map (enT sub)).map (mgT sub)) = _
  rw [map_back (fun p hp => (hitem p hp).2.2.2)]
def Rt (ts : List Slt) : Prop := ∀ (xs : List VT) (prev dpS : Int) (a b : Nat) (deep at_ : Int), vok ts prev dpS → 0 ≤ prev → chT utf flE ts xs deep = none → xs.length = ts.length → (∀ x ∈ xs, NmT x) → (spL ts a b).2 ≤ 4194304 →
 ech (fdT ts xs) prev = 0 ∧ (∀ f ∈ fdT ts xs, Fok f) ∧ (spL ts a b).1 ≤ a + (ebs (fdT ts xs)).length ∧ b + (ebs (fdT ts xs)).length ≤ (spL ts a b).2 ∧ dcT utf flE ts (fdT ts xs) at_ = none ∧ vlT ts (fdT ts xs) = xs
theorem sb_of {sub : List Slt} {dpS : Int} (h : Rt utf flE sub) (hl : sub.length ≤ 16) (hv : vok sub 0 dpS) : Sb utf flE sub := by
 intro p dp fr hc hn hsz
 obtain ⟨c1, c2, c3, c4⟩ := ck_none utf flE hc
 obtain ⟨n, d, ps⟩ := p
 obtain rfl : n = 0 := c1
 obtain rfl : d = [] := c2
 replace c3 : ps.length = sub.length := c3
 replace c4 : chT utf flE sub ps dp = none := c4
 cases hn with
 | mk _ _ _ _ _ hnp =>
 obtain ⟨r1, r2, r3, r4, r5, r6⟩ := h ps 0 dpS 0 0 dp fr hv (by decide) c4 c3 hnp hsz
 have hlen := fdT_len sub ps c3.symm
 have hee : eer (fdT sub ps) = 0 := eer_ok.2 ⟨by omega, r1, by omega⟩
 have hen : enT sub (.mk 0 [] ps) = ebs (fdT sub ps) := if_pos hee
 obtain ⟨d1, _, d3⟩ := enc_dec hee r2
 rw [hen]
 refine ⟨by omega, by omega, ?_, ?_⟩
 ·show decN (dcT utf flE sub) (ebs (fdT sub ps)) fr = none
  unfold decN
  rw [if_neg (by rw [d1]; simp), d3]
  exact r5
 ·show VT.mk 0 [] (vlT sub (dfs (dwh (ebs (fdT sub ps))))) = _
  rw [d3, r6]
theorem rt2 : ∀ ts : List Slt, Rt utf flE ts
 | [] => by
  intro xs prev dpS a b deep at_ _ _ _ hl _ hsz
  obtain rfl : xs = [] := List.eq_nil_of_length_eq_zero hl
  rw [fdT_nil]
  exact ⟨rfl, fun f hf => by simp at hf, by rw [spL, ebs]; show a ≤ a + 0; omega, by rw [spL, ebs]; show b + 0 ≤ b; omega, by rw [dcT], by rw [vlT_nil]⟩
 | .mk no k l m sub :: ts => by
  intro xs prev dpS a b deep at_ hv hp hc hl hn hsz
  cases xs with
  | nil => simp at hl
  | cons x xs =>
  rw [vok] at hv
  obtain ⟨⟨⟨v1, v2, v3⟩, hfit, hnst⟩, hvt⟩ := hv
  rw [chT_cons] at hc
  cases hs : slT utf flE (.mk no k l m sub) x deep with
  | some e => rw [hs] at hc; cases hc
  | none =>
  rw [hs] at hc
  rw [spL_cons] at hsz ⊢
  replace hsz : (spL ts (cpd (a + hdl no k + (slsz k l m (spL sub 0 0)).1)) (cpd (b + hdl no k + (slsz k l m (spL sub 0 0)).2))).2 ≤ 4194304 := hsz
  show _ ∧ _ ∧ (spL ts (cpd (a + hdl no k + (slsz k l m (spL sub 0 0)).1)) (cpd (b + hdl no k + (slsz k l m (spL sub 0 0)).2))).1 ≤ _ ∧ _ ≤ (spL ts (cpd (a + hdl no k + (slsz k l m (spL sub 0 0)).1)) (cpd (b + hdl no k + (slsz k l m (spL sub 0 0)).2))).2 ∧ _
  obtain ⟨i1, i2, i3, i4, i5, i6⟩ := rt2 ts xs no dpS (cpd (a + hdl no k + (slsz k l m (spL sub 0 0)).1)) (cpd (b + hdl no k + (slsz k l m (spL sub 0 0)).2)) deep (at_ + ((fby (fdS (.mk no k l m sub) x)).length : Int)) hvt (by omega) hc (by simpa using hl) (fun y hy => hn y (by simp [hy])) hsz
  have hb := cpd_small (show cpd (b + hdl no k + (slsz k l m (spL sub 0 0)).2) ≤ 4194304 by omega)
  have ha := cpd_down (a + hdl no k + (slsz k l m (spL sub 0 0)).1)
  have hs2 : (slsz k l m (spL sub 0 0)).2 ≤ 4194304 := by omega
  have hnx := hn x (by simp)
  have hSb : (k = 8 ∨ k = 9) → Sb utf flE sub := fun hk => sb_of utf flE (rt2 sub) (hnst hk).1 (hnst hk).2.2
  have hSv : Sv utf flE k l m sub (fdS (.mk no k l m sub) x) x := by
   by_cases h8 : k = 8
   ·subst h8
    exact sv_msg utf flE ⟨v2, v3⟩ (hSb (.inl rfl)) hs hnx hs2
   ·by_cases h9 : k = 9
    ·subst h9
     have hm4 : m ≤ 4096 := by rcases fit_cases hfit with q | q | q | q | q | q | q | q <;> omega
     exact sv_list utf flE ⟨v2, v3⟩ hm4 (hSb (.inr rfl)) hs hnx hs2
    ·exact sv_plain utf flE ⟨v2, v3⟩ hfit h8 h9 hs hnx hs2
  obtain ⟨s1, s2, s3, s4, s5, s6⟩ := hSv
  have hfl : (fby (fdS (.mk no k l m sub) x)).length = hdl no k + (fvl (fdS (.mk no k l m sub) x)).length := by
   rw [fby, List.length_append]
   rfl
  have hck0 : hck (fdS (.mk no k l m sub) x) prev = 0 := by
   unfold hck
   rw [if_neg (by show ¬ (no ≤ prev ∨ 536870911 < no); omega), if_pos (by show known (wtA k); unfold known wtA; split; exact .inr (.inr (.inr rfl)); split; exact .inr (.inl rfl); split; exact .inl rfl; exact .inr (.inr (.inl rfl)))]
  have hfk : fck (fdS (.mk no k l m sub) x) prev = 0 := by
   unfold fck
   rw [if_neg (by rw [hck0]; simp), if_pos s1]
  rw [fdT_cons]
  refine ⟨?_, ?_, ?_, ?_, ?_, ?_⟩
  ·rw [ech, if_neg (by rw [hfk]; simp)]
   exact i1
  ·intro f hf
   rcases List.mem_cons.1 hf with rfl | hf
   ·exact s2
   ·exact i2 f hf
  ·rw [ebs, List.length_append]
   omega
  ·rw [ebs, List.length_append]
   omega
  ·rw [dcT_cons]
   have : dsT utf flE (.mk no k l m sub) (fdS (.mk no k l m sub) x) at_ = none := by
    show dsN utf flE no k l m (deT utf flE sub) (fdS (.mk no k l m sub) x) at_ = none
    unfold dsN
    rw [if_neg (by show ¬ (no ≠ no); simp), if_neg (by show ¬ (wtA k ≠ wtA k); simp)]
    exact s5 at_
   rw [this]
   exact i5
  ·rw [vlT_cons, i6]
   show vlN k (mgT sub) (fdS (.mk no k l m sub) x) :: xs = _
   rw [s6]
theorem enc_back {ts : List Slt} {dpS : Int} (hl : ts.length ≤ 64) (hv : vok ts 0 dpS) (hs : (spL ts 0 0).2 ≤ 4194304) {X : VT} (hX : NmT X) {deep fr : Int} (hc : ckT utf flE ts X deep = none) : (spL ts 0 0).1 ≤ (enT ts X).length ∧ (enT ts X).length ≤ (spL ts 0 0).2 ∧ deT utf flE ts (enT ts X) fr = none ∧ mgT ts (enT ts X) = X := by
 obtain ⟨c1, c2, c3, c4⟩ := ck_none utf flE hc
 obtain ⟨n, d, ps⟩ := X
 obtain rfl : n = 0 := c1
 obtain rfl : d = [] := c2
 replace c3 : ps.length = ts.length := c3
 replace c4 : chT utf flE ts ps deep = none := c4
 cases hX with
 | mk _ _ _ _ _ hnp =>
 obtain ⟨r1, r2, r3, r4, r5, r6⟩ := rt2 utf flE ts ps 0 dpS 0 0 deep fr hv (by decide) c4 c3 hnp hs
 have hlen := fdT_len ts ps c3.symm
 have hee : eer (fdT ts ps) = 0 := eer_ok.2 ⟨by omega, r1, by omega⟩
 have hen : enT ts (.mk 0 [] ps) = ebs (fdT ts ps) := if_pos hee
 obtain ⟨d1, _, d3⟩ := enc_dec hee r2
 rw [hen]
 refine ⟨by omega, by omega, ?_, ?_⟩
 ·show decN (dcT utf flE ts) (ebs (fdT ts ps)) fr = none
  unfold decN
  rw [if_neg (by rw [d1]; simp), d3]
  exact r5
 ·show VT.mk 0 [] (vlT ts (dfs (dwh (ebs (fdT ts ps))))) = _
  rw [d3, r6]
end
end Go.Proofs.YtgcpebhjehlacaaDoor

