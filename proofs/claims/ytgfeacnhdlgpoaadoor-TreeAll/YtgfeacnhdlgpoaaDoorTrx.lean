import Derived.Test.YtgfeacnhdlgpoaaDoorProg
import Derived.WalkKit
import Derived.WalkSpells
import Derived.WalkLawsBesides
import Derived.Lib.QuietBelow
import Derived.BigQuiet
import Derived.OrdersHeld
import Derived.OwnWalk
import Derived.Deep.RegionHeld3
import Derived.Deep.Cut
import Derived.Deep.CutRange
import Derived.Test.YtgfeacnhdlgpoaaDoorTrw
namespace Go.Proofs.YtgfeacnhdlgpoaaDoor
set_option maxRecDepth 100000
open Go Go.RowKit Go.Sort
attribute [local go_sem] setCell_drewN alloc_drewN
theorem pth_ok : ∀ (n : Nat) (l : List (List Int)) (i : Nat), l.length = n → Kok l → Kok (pth sumL l i) := by
  intro n
  induction n using Nat.strongRecOn with
  | ind n ih =>
    rintro l i rfl hl
    by_cases h : l.length < 2
    · rw [pth_one sumL h]; exact Kok.nil
    · have a := ct_lt h
      have b := ct_pos l.length
      by_cases hi : i < ctN l.length
      · rw [pth_lo sumL h hi]; exact (ih _ a _ _ (by rw [List.length_take]; omega) (hl.take _)).app (Kok.one (Ky.rt (hl.drop _)))
      · rw [pth_hi sumL h hi]; exact (ih (l.length - ctN l.length) (by omega) _ _ (by rw [List.length_drop]) (hl.drop _)).app (Kok.one (Ky.rt (hl.take _)))
theorem gro_ok : ∀ (n : Nat) (l : List (List Int)) (m : Nat) (wh : Bool), l.length = n → 1 ≤ m → Kok l → Kok (gro sumL l m wh) := by
  intro n
  induction n using Nat.strongRecOn with
  | ind n ih =>
    rintro l m wh rfl hm hl
    by_cases h : l.length ≤ m
    · rw [gro_end sumL h]
      cases wh with
      | true => exact Kok.nil
      | false => exact Kok.one (Ky.rt hl)
    · have a := ct_lt (n := l.length) (by omega)
      have b := ct_pos l.length
      by_cases hi : m ≤ ctN l.length
      · rw [gro_lo sumL hm (by omega) hi]; exact (ih _ a _ _ _ (by rw [List.length_take]; omega) hm (hl.take _)).app (Kok.one (Ky.rt (hl.drop _)))
      · rw [gro_hi sumL hm (by omega) hi]; exact (ih (l.length - ctN l.length) (by omega) _ _ _ (by rw [List.length_drop]) (by omega) (hl.drop _)).app (Kok.one (Ky.rt (hl.take _)))
theorem grL_ok {l : List (List Int)} (hl : Kok l) (m : Nat) : Kok (grL l m) := by
  unfold grL
  by_cases h : m = 0
  · rw [if_pos h]; exact Kok.nil
  · rw [if_neg h]; exact gro_ok _ l m true rfl (by omega) hl
theorem grL_len {l : List (List Int)} {m : Nat} (hl : l.length ≤ 65536) : (grL l m).length ≤ 17 := by
  unfold grL
  by_cases h : m = 0
  · rw [if_pos h]; simp
  · rw [if_neg h, gro_len sumL _ l m true rfl (by omega)]
    exact kys_le 16 _ _ _ (by simpa using hl) (by omega)
theorem pth_le {l : List (List Int)} {i : Nat} (hl : l.length ≤ 65536) : (pth sumL l i).length ≤ 16 := by
  rw [pth_len sumL _ l i rfl]
  exact lng_le 16 _ _ (by simpa using hl)
theorem grE_grL {l : List (List Int)} {M N : Nat} (hMN : M ≤ N) (hN : N ≤ l.length) (hl : l.length ≤ 65536) : grE (rt sumL (l.take M)) (M : Int) (rt sumL (l.take N)) (N : Int) (grL (l.take N) M) = 0 := by
  have hln : (l.take N).length = N := by rw [List.length_take]; omega
  have htt : (l.take N).take M = l.take M := by rw [List.take_take]; congr 1; omega
  unfold grE
  rw [if_neg (by omega)]
  by_cases h0 : (M : Int) = 0
  · have hM : M = 0 := by omega
    subst hM
    rw [if_pos h0, if_pos]
    refine ⟨by unfold grL; rw [if_pos rfl]; rfl, by rw [List.take_zero, rt_nil], fun e => ?_⟩
    have hN0 : N = 0 := by omega
    subst hN0
    rw [List.take_zero, rt_nil]
  · rw [if_neg h0, Int.toNat_natCast, Int.toNat_natCast]
    have hM1 : 1 ≤ M := by omega
    have hg : grL (l.take N) M = gro sumL (l.take N) M true := by unfold grL; rw [if_neg (by omega)]
    have hlen := gro_len sumL N (l.take N) M true hln hM1
    have hb := bth_gro sumL N (l.take N) M true (rt sumL (l.take M)) hln hM1 hMN (fun _ => by rw [htt])
    obtain ⟨q1, q2⟩ := (bth_bde sumL N M true (rt sumL (l.take M)) (gro sumL (l.take N) M true) hM1).2 hlen
    rw [hg, if_pos ⟨hlen, by rw [← q1, hb, htt], by rw [← q2, hb]⟩]
theorem inE_pth {l : List (List Int)} {I N : Nat} (hI : I < N) (hN : N ≤ l.length) (hl : l.length ≤ 65536) : inE (rt sumL (l.take N)) (N : Int) (I : Int) (l.getD I []) (pth sumL (l.take N) I) = 0 := by
  have hln : (l.take N).length = N := by rw [List.length_take]; omega
  unfold inE
  rw [if_neg (by omega), Int.toNat_natCast, Int.toNat_natCast]
  have hlen := pth_len sumL N (l.take N) I hln
  have hb := alo_pth sumL N (l.take N) I hln hI
  rw [getD_take hI] at hb
  have q := (alo_mde sumL N I (l.getD I []) (pth sumL (l.take N) I)).2 hlen
  rw [if_pos ⟨hlen, by rw [← q, hb]⟩]
theorem complete_any (l : List (List Int)) (m n i : Int) (w : World) (v : Value) (hS : Sta w) (hK : Kon w) (hL : Ksl w v l) (hbl : l.length ≤ 4398046510990) : Calls Tryd.prog 8 #[.agg (gvrow v m n i)] w fun e w' => e = .returned (.bool true) ∧ Below w.heap.size w w' := by
  obtain ⟨vo, vc, rfl, hvc, hz⟩ := hL.slc
  by_cases hbig : 65536 < l.length
  · exact complete_big l m n i w vo vc hL hbl hbig
  have hle : l.length ≤ 65536 := by omega
  by_cases hno : m < 0 ∨ n < m ∨ (l.length : Int) < n
  · exact complete_out l m n i w vo vc hL hle (by omega)
  obtain ⟨M, rfl⟩ := Int.eq_ofNat_of_zero_le (show 0 ≤ m by omega)
  obtain ⟨N, rfl⟩ := Int.eq_ofNat_of_zero_le (show 0 ≤ n by omega)
  have hMN : M ≤ N := by omega
  have hN : N ≤ l.length := by omega
  have hln : (l.take N).length = N := by rw [List.length_take]; omega
  have kM := Ky.rt (hL.ok.take M)
  have kN := Ky.rt (hL.ok.take N)
  have cG : ∀ W, Sta W → Kon W → ∀ {u : Value}, Ksl W u (grL (l.take N) M) → Calls Tryd.prog 31 #[.agg (irow .u8 (rt sumL (l.take M))), .int .i64 (M : Int), .agg (irow .u8 (rt sumL (l.take N))), .int .i64 (N : Int), u] W fun e w' => e = .returned (.int .i64 0) ∧ Below W.heap.size W w' := fun W h1 h2 u hu => by
    have h := a_Grown _ _ (M : Int) (N : Int) _ W u kM kN h1 h2 hu
    rw [grE_grL hMN hN hle] at h
    exact h
  by_cases hi : i < 0 ∨ (N : Int) ≤ i
  · exact complete_beside l M N i w vo vc hL hle hMN hN hz hvc kM.1 kN.1 (grL_ok (hL.ok.take N) M) (grL_len (by omega)) hS hK (fun W b g u h1 h2 h3 => a_LRoot l W b g u h3 h1 h2 M (by omega)) (fun W b g u h1 h2 h3 => a_LRoot l W b g u h3 h1 h2 N hN) (fun W b g u h1 h2 h3 => a_LGrow l W b g u h3 h1 h2 M N hMN hN) cG (fun W hW => a_Root _ _ W _ rfl (hS.below hW) (hK.below hW) ((hL.keep hW).head hN)) (by omega)
  · obtain ⟨I, rfl⟩ := Int.eq_ofNat_of_zero_le (show 0 ≤ i by omega)
    have hI : I < N := by omega
    obtain ⟨_, _, e, _, _, _, _, hp⟩ := id hL
    cases e
    obtain ⟨pg, po, pcs, pt, pf, hvo, q1, q2⟩ := hp I (by omega)
    exact complete_in l M N I w vo vc hL hle hMN hN hz hvc kM.1 kN.1 (grL_ok (hL.ok.take N) M) (grL_len (by omega)) hS hK (fun W b g u h1 h2 h3 => a_LRoot l W b g u h3 h1 h2 M (by omega)) (fun W b g u h1 h2 h3 => a_LRoot l W b g u h3 h1 h2 N hN) (fun W b g u h1 h2 h3 => a_LGrow l W b g u h3 h1 h2 M N hMN hN) cG (fun W hW => a_Root _ _ W _ rfl (hS.below hW) (hK.below hW) ((hL.keep hW).head hN)) (hL.ok.at (by omega)).1 (pth_ok _ _ I rfl (hL.ok.take N)) (pth_le (by omega)) hI pg po pcs pt pf hvo q1 q2 (fun W b g u h1 h2 h3 => a_LPath l W b g u h3 h1 h2 I N hI hN) (fun W h1 h2 u hu => by
      have h := a_Included (rt sumL (l.take N)) (l.getD I []) (N : Int) (I : Int) _ W u kN (hL.ok.at (by omega)) h1 h2 hu
      rw [inE_pth hI hN hle] at h
      exact h)
end Go.Proofs.YtgfeacnhdlgpoaaDoor
