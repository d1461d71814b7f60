import Derived.Test.YtlglalhddeldbabProg
import Derived.WalkKit
import Derived.WalkSpells
import Derived.WalkLawsBesides
import Derived.Lib.QuietBelow
import Derived.Laws.BitsAllLaws
import Derived.BigQuiet
import Derived.WalkMore
import Derived.Test.YtlglalhddeldbabKit
import Derived.OrdersHeld
import Derived.Deep.RegionHeld3
import Derived.Test.YtlglalhddeldbabXds
namespace Go.Proofs.Ytlglalhddeldbab
open Go Go.RowKit Go.Sort
attribute [local go_sem] setCell_drewN alloc_drewN

theorem ech_la : ∀ (fs : List Fd) (last : Int) (c : Nat), 0 ≤ last → ech fs last = 0 → c < fs.length → ∃ la, 0 ≤ la ∧ fck (gf fs c) la = 0
  | [], _, _, _, _, h => by simp at h
  | f :: fs, last, c, h0, he, hc => by
    rw [ech] at he
    by_cases hf : fck f last = 0
    · rw [if_neg (by rw [hf]; simp)] at he
      cases c with
      | zero => exact ⟨last, h0, hf⟩
      | succ c => exact ech_la fs f.no c (by have := (fck_ok hf).1; omega) he (by simpa using hc)
    · rw [if_pos hf] at he
      exact absurd he hf
theorem field_at {fs : List Fd} {c : Nat} (he : eer fs = 0) (hc : c < fs.length) : ∃ a t : Nat, (gf fs c).no = (a : Int) ∧ (gf fs c).ty = (t : Int) ∧ a ≤ 536870911 ∧ t < 8 := by
  obtain ⟨la, h0, hf⟩ := ech_la fs 0 c (by omega) (eer_ok.1 he).2.1 hc
  obtain ⟨f1, f2, f3, _⟩ := fck_ok hf
  have := known_lt f3
  exact ⟨(gf fs c).no.toNat, (gf fs c).ty.toNat, by omega, by omega, by omega, by omega⟩
set_option maxRecDepth 100000 in
set_option maxHeartbeats 8000000 in
theorem cutm_any (fs : List Fd) (n : Int) (W : World) (v : Value) (hB : Fds W v fs) : Calls Try.prog 8 #[v, .int .i64 n] W fun e w' => e = .returned (.bool true) ∧ Below W.heap.size W w' := by
  have hlen := hB.len
  have hok := hide hB.okm
  obtain ⟨ao, cap, hvf, hcp, hzz⟩ : ∃ ao cap, v = .slice ao fs.length cap ∧ fs.length ≤ cap ∧ (ao = none → cap = 0) := by
    obtain ⟨ao, cap, h1, _, h2, h3, _⟩ := hB
    exact ⟨ao, cap, h1, h2, h3⟩
  subst hvf
  have cX := a_encode fs W _ hB
  go_enter Try.func8, Try.ntmps8
  go_wp2_with (fail)
  refine cX.mono ?_
  rintro e_ w1 ⟨x, rfl, hx, hb⟩
  have hw := hb
  clear cX hb
  have hF1 : Fds (w1.alloc (.cells #[.int .i64 1, .int .i64 0, .int .u64 150, .slice none 0 0] 38)) (.slice (some ⟨w1.heap.size, 0, none⟩) 1 1) [f150] := fds_one w1 f150 (.slice none 0 0) (bys_nil w1) f150_ok
  have hb1 : Below w1.heap.size w1 (w1.alloc (.cells #[.int .i64 1, .int .i64 0, .int .u64 150, .slice none 0 0] 38)) := (Below.refl _ _).alloc (Nat.le_refl _) _
  have cX := a_encode [f150] _ _ hF1
  rw [f150_er, f150_out] at cX
  replace hw := Below.after hw hb1
  replace hx := hx.keep hb1
  clear hF1 hb1
  go_wp2_with (fail)
  refine cX.mono ?_
  rintro e_ w2 ⟨x1, rfl, hx1, hb⟩
  replace hw := Below.after hw hb
  replace hx := hx.keep hb
  clear cX hb
  obtain ⟨xo1, xc1, rfl⟩ := slen_own hx1
  clear hx1
  simp only [List.length_cons, List.length_nil, Nat.zero_add, Nat.reduceAdd]
  by_cases he : eer fs = 0
  · have heo : eout fs = ebs fs := if_pos he
    rw [heo] at hx
    obtain ⟨xo, xc, rfl⟩ := slen_own hx
    have hel := (eer_ok.1 he).2.2
    by_cases h0 : n < 0
    · have d0 : decide (n < 0) = true := by simpa using h0
      clear heo
      replace hx := hide hx
      generalize (ebs fs).length = bl0 at *
      go_wp2_with (fail)
      go_ret
      exact ⟨rfl, hw⟩
    have d0 : decide (n < 0) = false := by simpa using h0
    obtain ⟨m, rfl⟩ : ∃ m : Nat, n = (m : Int) := ⟨n.toNat, by omega⟩
    by_cases h1 : (ebs fs).length ≤ m
    · have d1 : decide ((m : Int) ≥ ((ebs fs).length : Int)) = true := by simp; omega
      replace hx := hide hx
      clear heo
      go_wp2_with (fail)
      go_ret
      exact ⟨rfl, hw⟩
    have d1 : decide ((m : Int) ≥ ((ebs fs).length : Int)) = false := by simp; omega
    replace hx := hide hx
    clear heo
    go_wp2_with (fail)
    have hnext := hide hlen
    go_loopw [9, 10] (fun en0 cn0 wr => ∃ c : Nat, c ≤ fs.length ∧ en0 = .int .i64 ((ebs (fs.take c)).length : Int) ∧ cn0 = .int .i64 (c : Int) ∧ (ebs (fs.take c)).length ≤ m ∧ Below w2.heap.size w2 wr) (fun _ c _ => fs.length - (intOf c).toNat)
    case atStart => exact ⟨0, by omega, rfl, rfl, by simp [ebs], Below.refl _ _⟩
    case round =>
      obtain ⟨c, hc, rfl, rfl, hle, hq⟩ := hrel
      have hBr := hB.keep (Below.after hw hq)
      have hxr := hx.out.keep hq
      have hsb := slb_head xo (ebs fs).length xc m (by have := own_cap hxr _ _ _ rfl; omega)
      have hDb := bysB_head (hxr.bysB (by omega)) (k := m) (by omega)
      have hcm : ∀ a l c, Value.slice xo m xc = .slice a l c → l ≤ c := fun a l c e => by cases e; have := own_cap hxr _ _ _ rfl; omega
      by_cases hgo : c < fs.length ∧ (ebs (fs.take c)).length < m
      · have g1 : decide ((c : Int) < (fs.length : Int)) = true := by simp; omega
        have g2 : decide (((ebs (fs.take c)).length : Int) < (m : Int)) = true := by simp; omega
        have hsl : ∀ V, (Instr.sliceAt 22 (.slice ao fs.length cap) none (some (.int .i64 ((c : Int) + 1))) none).run Try.prog V = .ok (.slice ao (c + 1) cap) V := fun V => by
          have := slf_head ao fs.length cap (c + 1) (by omega) hzz V
          rwa [Int.natCast_add, Int.natCast_one] at this
        have hc1 : 0 ≤ (c : Int) + 1 ∧ (c : Int) + 1 < 4000000000000 := by omega
        have cX := a_encode (fs.take (c + 1)) wr (.slice ao (c + 1) cap) (hBr.take (c + 1) hgo.1)
        rw [eer_take (c + 1) he, show eout (fs.take (c + 1)) = ebs (fs.take (c + 1)) from if_pos (eer_take (c + 1) he)] at cX
        have hL : (ebs (fs.take c)).length < (ebs (fs.take (c + 1))).length := by
          rw [ebs_snoc fs c hgo.1, List.length_append, fby, List.length_append]
          have := en_pos (fhd (gf fs c))
          omega
        have hdc := hide (fun h2 => dec_cut (n := m) he hok.out hgo.1 hgo.2 h2)
        have hLn := hide (rfl : (ebs (fs.take (c + 1))).length = (ebs (fs.take (c + 1))).length)
        generalize hE : (ebs (fs.take c)).length = E at *
        generalize hL1 : (ebs (fs.take (c + 1))).length = L1 at *
        have hE := hide hE
        have hL1 := hide hL1
        have d3 : decide ((L1 : Int) ≤ (E : Int)) = false := by simp; omega
        clear hLn
        go_wp2_with (fail)
        refine cX.mono ?_
        rintro e_ w3 ⟨y, rfl, hy, hb⟩
        obtain ⟨yo, yc, rfl⟩ := slen_own hy
        rw [hL1.out] at hy ⊢
        replace hq := Below.after hq hb
        replace hDb := hDb.keep hb
        replace hBr := hBr.keep hb
        clear cX hb hy hxr
        by_cases hcut : m < L1
        · have d4 : decide ((L1 : Int) > (m : Int)) = true := by simp; omega
          have cX := a_decode ((ebs fs).take m) w3 (.slice xo m xc) hDb hcm
          have hd3 := hdc.out hcut
          rw [hd3.1, hd3.2.1, hd3.2.2] at cX
          clear hd3 hdc
          obtain ⟨a, t, ha, ht, ha2, ht2⟩ := field_at he hgo.1
          obtain ⟨b, off, uu, uc, hao, hbl, hrg, _⟩ := hBr.at hgo.1
          subst hao
          have hfh : fhd (gf fs c) = 8 * a + t := by unfold fhd; rw [ha, ht]; simp
          rw [hfh] at cX
          have cS := a_size (8 * a + t) (by omega)
          have hten := en_ten (n := 8 * a + t) (by omega)
          rw [show ((8 * a + t : Nat) : Int) = 8 * (a : Int) + (t : Int) by omega] at cS
          have hw1 : IntKind.u64.wrap (a : Int) = (a : Int) := by rw [IntKind.wrap_u64]; omega
          have hw2 : IntKind.u64.wrap (8 * (a : Int)) = 8 * (a : Int) := by rw [IntKind.wrap_u64]; omega
          have hw3 : IntKind.u64.wrap (t : Int) = (t : Int) := by rw [IntKind.wrap_u64]; omega
          have hw4 : IntKind.u64.wrap (8 * (a : Int) + (t : Int)) = 8 * (a : Int) + (t : Int) := by rw [IntKind.wrap_u64]; omega
          generalize (en (8 * a + t)).length = hl at *
          generalize hVv : (E + if m - E < hl then 0 else hl : Nat) = Vv at cX
          replace hVv := hide hVv
          have hrg0 := hrg 0 _ rfl
          have hrg1 := hrg 1 _ rfl
          rw [ha] at hrg0
          rw [ht] at hrg1
          clear hrg hsl d3 hE hL1
          go_wp2_with (fail)
          refine cX.mono ?_
          rintro e_ w4 ⟨u, us, rfl, hU, hb⟩
          obtain ⟨uo, uc4, rfl⟩ := slen_own hU.1
          clear hU cX
          replace hrg0 := (hb.cell (p := ⟨b, off + c * 4 + 0, none⟩) hbl).trans hrg0
          replace hrg1 := (hb.cell (p := ⟨b, off + c * 4 + 1, none⟩) hbl).trans hrg1
          replace hq := Below.after hq hb
          have hbl4 : b < w4.heap.size := Nat.lt_of_lt_of_le hbl hb.size
          clear hb
          have hci : 0 ≤ (c : Int) ∧ (c : Int) < (fs.length : Int) := by omega
          go_wp2_with (fail)
          have hbd : Below w4.heap.size w4 w4.drew := below_drN (Below.refl _ _) 1
          have hS : w4.drew.cell? ⟨b, off + c * 4, none⟩ = some (.int .i64 (a : Int)) ∧ w4.drew.cell? ⟨b, off + c * 4 + 1, none⟩ = some (.int .i64 (t : Int)) := ⟨hrg0, hrg1⟩
          replace hq := Below.after hq hbd
          replace hbl4 : b < w4.drew.heap.size := Nat.lt_of_lt_of_le hbl4 hbd.size
          have hEh : 0 ≤ (E : Int) + (hl : Int) ∧ (E : Int) + (hl : Int) < 9000000 := by omega

          clear hbd hrg0 hrg1
          refine wp_region_noPanic ?_
          refine wp_region_held (S := fun W => W.cell? ⟨b, off + c * 4, none⟩ = some (.int .i64 (a : Int)) ∧ W.cell? ⟨b, off + c * 4 + 1, none⟩ = some (.int .i64 (t : Int))) (by kernel_rfl) ?_
          change wpAnyH _ _ _ _ _ _ _ _ (World.drew _)
          generalize w4.drew = w5 at *
          refine wpAnyH_take (i := 0) (v := ?v1) rfl (by kernel_rfl) (by kernel_rfl) (by kernel_rfl) (fun _ _ _ h => h) (Or.inl ⟨by rfl, ?y1⟩) hS ?r1
          case y1 =>
            intro w_ hS_
            go_simp
            try with_reducible rfl
          simp only [Act.put, List.getElem_toArray, List.getElem_cons_zero, List.setIfInBounds_toArray, List.set_cons_succ, List.set_cons_zero]
          refine wpAnyH_take (i := 1) (v := ?v2) rfl (by kernel_rfl) (by kernel_rfl) (by kernel_rfl) (fun _ _ _ h => h) (Or.inl ⟨by rfl, ?y2⟩) hS ?r2
          case y2 =>
            intro w_ hS_
            go_simp
            try with_reducible rfl
          simp only [Act.put, List.getElem_toArray, List.getElem_cons_succ, List.getElem_cons_zero, List.setIfInBounds_toArray, List.set_cons_succ, List.set_cons_zero]
          refine wpAnyH_take (i := 2) (v := ?v3) rfl (by kernel_rfl) (by kernel_rfl) (by kernel_rfl) (fun _ _ _ h => h) (Or.inl ⟨by rfl, ?y3⟩) hS ?r3
          case y3 =>
            intro w_ hS_
            go_simp
            try with_reducible rfl
          simp only [Act.put, List.getElem_toArray, List.getElem_cons_succ, List.getElem_cons_zero, List.setIfInBounds_toArray, List.set_cons_succ, List.set_cons_zero]
          refine wpAnyH_take (i := 3) (v := ?v4) rfl (by kernel_rfl) (by kernel_rfl) (by kernel_rfl) (fun _ _ _ h => h) (Or.inl ⟨by rfl, ?y4⟩) hS ?r4
          case y4 =>
            intro w_ hS_
            go_simp
            try with_reducible rfl
          simp only [Act.put, List.getElem_toArray, List.getElem_cons_succ, List.getElem_cons_zero, List.setIfInBounds_toArray, List.set_cons_succ, List.set_cons_zero]
          refine wpAnyH_take (i := 4) (v := ?v5) rfl (by kernel_rfl) (by kernel_rfl) (by kernel_rfl) (fun _ _ _ h => h) (Or.inl ⟨by rfl, ?y5⟩) hS ?r5
          case y5 =>
            intro w_ hS_
            go_simp
            try with_reducible rfl
          simp only [Act.put, List.getElem_toArray, List.getElem_cons_succ, List.getElem_cons_zero, List.setIfInBounds_toArray, List.set_cons_succ, List.set_cons_zero]
          refine wpAnyH_take (i := 5) (v := .int .i64 (a : Int)) rfl (by kernel_rfl) (by kernel_rfl) (by kernel_rfl) (fun _ _ _ h => h) (Or.inl ⟨by rfl, ?y6⟩) hS ?r6
          case y6 =>
            intro w_ hS_
            have c_ := hS_.1
            go_simp
            try with_reducible rfl
          simp only [Act.put, List.getElem_toArray, List.getElem_cons_succ, List.getElem_cons_zero, List.setIfInBounds_toArray, List.set_cons_succ, List.set_cons_zero]
          refine wpAnyH_take (i := 6) (v := .int .u64 (a : Int)) rfl (by kernel_rfl) (by kernel_rfl) (by kernel_rfl) (fun _ _ _ h => h) (Or.inl ⟨by rfl, ?y7⟩) hS ?r7
          case y7 =>
            intro w_ hS_
            go_simp
            first | done | rfl | (simp only [hw1, hw2, hw3, hw4])
          simp only [Act.put, List.getElem_toArray, List.getElem_cons_succ, List.getElem_cons_zero, List.setIfInBounds_toArray, List.set_cons_succ, List.set_cons_zero]
          refine wpAnyH_take (i := 7) (v := .int .u64 (8 * (a : Int))) rfl (by kernel_rfl) (by kernel_rfl) (by kernel_rfl) (fun _ _ _ h => h) (Or.inl ⟨by rfl, ?y8⟩) hS ?r8
          case y8 =>
            intro w_ hS_
            go_simp
            first | done | rfl | (simp only [hw1, hw2, hw3, hw4])
          simp only [Act.put, List.getElem_toArray, List.getElem_cons_succ, List.getElem_cons_zero, List.setIfInBounds_toArray, List.set_cons_succ, List.set_cons_zero]
          refine wpAnyH_take (i := 8) (v := ?v9) rfl (by kernel_rfl) (by kernel_rfl) (by kernel_rfl) (fun _ _ _ h => h) (Or.inl ⟨by rfl, ?y9⟩) hS ?r9
          case y9 =>
            intro w_ hS_
            go_simp
            try with_reducible rfl
          simp only [Act.put, List.getElem_toArray, List.getElem_cons_succ, List.getElem_cons_zero, List.setIfInBounds_toArray, List.set_cons_succ, List.set_cons_zero]
          refine wpAnyH_take (i := 9) (v := ?v10) rfl (by kernel_rfl) (by kernel_rfl) (by kernel_rfl) (fun _ _ _ h => h) (Or.inl ⟨by rfl, ?y10⟩) hS ?r10
          case y10 =>
            intro w_ hS_
            go_simp
            try with_reducible rfl
          simp only [Act.put, List.getElem_toArray, List.getElem_cons_succ, List.getElem_cons_zero, List.setIfInBounds_toArray, List.set_cons_succ, List.set_cons_zero]
          refine wpAnyH_take (i := 10) (v := ?v11) rfl (by kernel_rfl) (by kernel_rfl) (by kernel_rfl) (fun _ _ _ h => h) (Or.inl ⟨by rfl, ?y11⟩) hS ?r11
          case y11 =>
            intro w_ hS_
            go_simp
            try with_reducible rfl
          simp only [Act.put, List.getElem_toArray, List.getElem_cons_succ, List.getElem_cons_zero, List.setIfInBounds_toArray, List.set_cons_succ, List.set_cons_zero]
          refine wpAnyH_take (i := 11) (v := ?v12) rfl (by kernel_rfl) (by kernel_rfl) (by kernel_rfl) (fun _ _ _ h => h) (Or.inl ⟨by rfl, ?y12⟩) hS ?r12
          case y12 =>
            intro w_ hS_
            go_simp
            try with_reducible rfl
          simp only [Act.put, List.getElem_toArray, List.getElem_cons_succ, List.getElem_cons_zero, List.setIfInBounds_toArray, List.set_cons_succ, List.set_cons_zero]
          refine wpAnyH_take (i := 12) (v := .int .i64 (t : Int)) rfl (by kernel_rfl) (by kernel_rfl) (by kernel_rfl) (fun _ _ _ h => h) (Or.inl ⟨by rfl, ?y13⟩) hS ?r13
          case y13 =>
            intro w_ hS_
            have c_ := hS_.2
            go_simp
            try with_reducible rfl
          simp only [Act.put, List.getElem_toArray, List.getElem_cons_succ, List.getElem_cons_zero, List.setIfInBounds_toArray, List.set_cons_succ, List.set_cons_zero]
          refine wpAnyH_take (i := 13) (v := .int .u64 (t : Int)) rfl (by kernel_rfl) (by kernel_rfl) (by kernel_rfl) (fun _ _ _ h => h) (Or.inl ⟨by rfl, ?y14⟩) hS ?r14
          case y14 =>
            intro w_ hS_
            go_simp
            first | done | rfl | (simp only [hw1, hw2, hw3, hw4])
          simp only [Act.put, List.getElem_toArray, List.getElem_cons_succ, List.getElem_cons_zero, List.setIfInBounds_toArray, List.set_cons_succ, List.set_cons_zero]
          refine wpAnyH_take (i := 14) (v := .int .u64 (8 * (a : Int) + (t : Int))) rfl (by kernel_rfl) (by kernel_rfl) (by kernel_rfl) (fun _ _ _ h => h) (Or.inl ⟨by rfl, ?y15⟩) hS ?r15
          case y15 =>
            intro w_ hS_
            go_simp
            first | done | rfl | (simp only [hw1, hw2, hw3, hw4])
          simp only [Act.put, List.getElem_toArray, List.getElem_cons_succ, List.getElem_cons_zero, List.setIfInBounds_toArray, List.set_cons_succ, List.set_cons_zero]
          refine wpAnyH_one (k := 15) (fuel := 2) (by kernel_rfl) rfl (by kernel_rfl) (fun K_ hK => ?_)
          refine wp_call_ex (f := 25) (R := fun v_ w_ => v_ = .int .i64 (hl : Int) ∧ Below w5.heap.size w5 w_) (by kernel_rfl) ((cS w5).mono (fun e_ w_ h_ => ⟨_, h_.1, rfl, h_.2⟩)) (fun v_ w6 hX_ => ?_)
          obtain ⟨rfl, hb_⟩ := hX_
          replace hS : w6.cell? ⟨b, off + c * 4, none⟩ = some (.int .i64 (a : Int)) ∧ w6.cell? ⟨b, off + c * 4 + 1, none⟩ = some (.int .i64 (t : Int)) := ⟨(hb_.cell (p := ⟨b, off + c * 4, none⟩) hbl4).trans hS.1, (hb_.cell (p := ⟨b, off + c * 4 + 1, none⟩) hbl4).trans hS.2⟩
          replace hq := Below.after hq hb_
          clear hb_ cS
          refine hK _ _ hS ?_
          simp only [Act.put, List.getElem_toArray, List.getElem_cons_succ, List.getElem_cons_zero, List.setIfInBounds_toArray, List.set_cons_succ, List.set_cons_zero]
          clear hK
          refine wpAnyH_take (i := 16) (v := ?v16) rfl (by kernel_rfl) (by kernel_rfl) (by kernel_rfl) (fun _ _ _ h => h) (Or.inl ⟨by rfl, ?y16⟩) hS ?r16
          case y16 =>
            intro w_ hS_
            go_simp
            try with_reducible rfl
          simp only [Act.put, List.getElem_toArray, List.getElem_cons_succ, List.getElem_cons_zero, List.setIfInBounds_toArray, List.set_cons_succ, List.set_cons_zero]
          refine wpAnyH_take (i := 17) (v := ?v17) rfl (by kernel_rfl) (by kernel_rfl) (by kernel_rfl) (fun _ _ _ h => h) (Or.inl ⟨by rfl, ?y17⟩) hS ?r17
          case y17 =>
            intro w_ hS_
            go_simp
            try with_reducible rfl
          simp only [Act.put, List.getElem_toArray, List.getElem_cons_succ, List.getElem_cons_zero, List.setIfInBounds_toArray, List.set_cons_succ, List.set_cons_zero]
          refine wpAnyH_done (by kernel_rfl) ?_ _
          refine NoPanic.normal ?_

          by_cases hvv : m < E + hl
          · have d5 : decide ((m : Int) < (E : Int) + (hl : Int)) = true := by simp; omega
            have hVE : Vv = E := by rw [← hVv.out, if_pos (by omega), Nat.add_zero]
            subst hVE
            go_wp2_with (fail)
            go_ret
            exact ⟨rfl, Below.after hw hq⟩
          · have d5 : decide ((m : Int) < (E : Int) + (hl : Int)) = false := by simp; omega
            have hVE : (Vv : Int) = (E : Int) + (hl : Int) := by rw [← hVv.out, if_neg (by omega)]; omega
            go_wp2_with (fail)
            go_ret
            exact ⟨rfl, Below.after hw hq⟩
        · have d4 : decide ((L1 : Int) > (m : Int)) = false := by simp; omega
          go_wp2_with (fail)
          refine ⟨⟨c + 1, by omega, by rw [hL1.out], by go_num, by rw [hL1.out]; omega, hq⟩, ?_⟩
          simp [intOf]; omega
      · have hcl : c < fs.length := by
          rcases Nat.lt_or_ge c fs.length with q | q
          · exact q
          · have : fs.take c = fs := List.take_of_length_le q
            rw [this] at hle
            omega
        have hEm : (ebs (fs.take c)).length = m := by omega
        have hde := dec_end (c := c) he hok.out
        rw [hEm] at hde ⊢
        have g1 : decide ((c : Int) < (fs.length : Int)) = true := by simp; omega
        have g2 : decide ((m : Int) < (m : Int)) = false := by simp
        have hsl := slf_head ao fs.length cap c (by omega) hzz
        have hdl : (dfs (dwh ((ebs fs).take m))).length ≤ 64 := by rw [hde.2.2, List.length_take]; have := (eer_ok.1 he).1; omega
        have cX := a_decode ((ebs fs).take m) wr (.slice xo m xc) hDb hcm
        rw [hde.1, hde.2.1, hde.2.2] at cX
        have hokt : ∀ f ∈ fs.take c, Fok f := fun f hf => hok.out f (List.mem_of_mem_take hf)
        have htl : (fs.take c).length = c := by rw [List.length_take]; omega
        replace hokt := hide hokt
        clear hde hEm hle hgo hdl
        go_wp2_with (fail)
        refine cX.mono ?_
        rintro e_ w3 ⟨u, us, rfl, hU, hb⟩
        have hUF := hU.fds (by omega) (oks_i hokt.out)
        have hBt := (hBr.keep hb).take c (by omega)
        have cX := l_alike (fs.take c) w3 _ _ hUF hBt
        replace hq := Below.after hq hb
        clear hU hb hUF hBt htl
        go_wp2_with (fail)
        refine cX.mono ?_
        rintro e_ w4 ⟨rfl, hb⟩
        replace hq := Below.after hq hb
        clear cX hb
        go_wp2_with (fail)
        go_ret
        exact ⟨rfl, Below.after hw hq⟩
  · have he2 : (eer fs == 0) = false := by simpa using he
    replace hx := hide hx
    generalize eer fs = E at *
    go_wp2_with (fail)
    go_ret
    exact ⟨rfl, hw⟩
end Go.Proofs.Ytlglalhddeldbab

