import Derived.Test.YtdlillgkgbfheaaDoorProg
import Derived.WalkKit
import Derived.OwnWalk
import Derived.Test.YtdlillgkgbfheaaDoorKa
import Derived.Test.YtdlillgkgbfheaaDoorAhk
namespace Go.Proofs.YtdlillgkgbfheaaDoor
set_option maxRecDepth 100000
open Go Go.RowKit Go.Sort
/-- A blank at each sixth place, digits between. -/
def bkk (i : Nat) (c : UInt8) : Prop := (i % 6 = 0 → c.toNat = 32) ∧ (i % 6 ≠ 0 → 48 ≤ c.toNat ∧ c.toNat ≤ 57)
theorem dg_bd (n j : Nat) : 48 ≤ (Lib.dg n j).toNat ∧ (Lib.dg n j).toNat ≤ 57 := by
  unfold Lib.dg
  rw [UInt8.toNat_ofNat']
  have := Nat.mod_lt (n / 10 ^ j) (show 0 < 10 by decide)
  omega
theorem bkk_six (n i : Nat) (c : UInt8) (h : (32 :: dig5 n)[i]? = some c) : bkk i c := by
  have hb := dg_bd n
  match i, h with
  | 0, h => cases h; exact ⟨fun _ => rfl, fun h => absurd rfl h⟩
  | 1, h => cases h; exact ⟨fun h => by omega, fun _ => hb 4⟩
  | 2, h => cases h; exact ⟨fun h => by omega, fun _ => hb 3⟩
  | 3, h => cases h; exact ⟨fun h => by omega, fun _ => hb 2⟩
  | 4, h => cases h; exact ⟨fun h => by omega, fun _ => hb 1⟩
  | 5, h => cases h; exact ⟨fun h => by omega, fun _ => hb 0⟩
  | i + 6, h => simp [dig5] at h
theorem bkk_add {i k : Nat} {c : UInt8} (h : bkk (i - 6 * k) c) (hk : 6 * k ≤ i) : bkk i c := ⟨fun h1 => h.1 (by omega), fun h1 => h.2 (by omega)⟩
theorem bkk_dgs (h : List Int) : ∀ n i c, (dgs h n)[i]? = some c → bkk i c
  | 0, i, c, e => by simp [dgs, gps, Lib.joinTail] at e
  | n + 1, i, c, e => by
    rw [dgs_succ] at e
    rcases Nat.lt_or_ge i (6 * n) with h1 | h1
    · rw [List.getElem?_append_left (by rw [dgs_len]; exact h1)] at e
      exact bkk_dgs h n i c e
    · rw [List.getElem?_append_right (by rw [dgs_len]; exact h1), dgs_len] at e
      exact bkk_add (k := n) (bkk_six _ _ _ e) h1
theorem bkk_both (h1 h2 : List Int) (i : Nat) (c : UInt8) (e : (dgs h1 6 ++ dgs h2 6)[i]? = some c) : bkk i c := by
  rcases Nat.lt_or_ge i 36 with h | h
  · rw [List.getElem?_append_left (by rw [dgs_len]; exact h)] at e
    exact bkk_dgs _ _ _ _ e
  · rw [List.getElem?_append_right (by rw [dgs_len]; exact h), dgs_len] at e
    exact bkk_add (k := 6) (bkk_dgs _ _ _ _ e) h
/-- The number's bytes. -/
theorem sfs_at (h1 h2 : List Int) (i : Nat) (hi : i < 71) : ∃ c : UInt8, (sfs h1 h2).data.toList[i]? = some c ∧ bkk (i + 1) c := by
  have hl := sfs_size h1 h2
  obtain ⟨c, e⟩ : ∃ c, (sfs h1 h2).data.toList[i]? = some c := ⟨_, List.getElem?_eq_getElem (by omega)⟩
  refine ⟨c, e, ?_⟩
  rw [sfs_eq, List.getElem?_drop, Nat.add_comm] at e
  exact bkk_both h1 h2 _ _ e
theorem sfs_bsize (h1 h2 : List Int) : (sfs h1 h2).size = 71 := sfs_size h1 h2
theorem run_ix (S : ByteArray) (k : Nat) (c : UInt8) (h : S.data.toList[k]? = some c) (W : World) : (Instr.index 9 (.string S) (.int .i64 (k : Int))).run Tryd.prog W = .ok (.int .u8 (c.toNat : Int)) W := by
  have hk : k < S.size := (List.getElem?_eq_some_iff.1 h).1
  have hr := run_index_string (P := Tryd.prog) W 9 S .i64 k Tryd.underlying9
  rw [dif_pos (by omega)] at hr
  rw [hr]
  have e : S[k] = c := (List.getElem?_eq_some_iff.1 h).2
  rw [← e]
  rfl
set_option maxRecDepth 100000 in
set_option maxHeartbeats 4000000 in
theorem l_grouped (h1 h2 : List Int) (w : World) : Calls Tryd.prog 8 #[.string (sfs h1 h2)] w fun e w' => ∃ v, e = .returned v ∧ v = .bool true ∧ Below w.heap.size w w' := by
  have hsz := sfs_bsize h1 h2
  have hat := hide (sfs_at h1 h2)
  generalize sfs h1 h2 = S at *
  have hneq : decide ((71 : Int) ≠ 71) = false := by simp
  go_enter Tryd.func8, Tryd.ntmps8
  go_wp2_with (fail)
  go_loopw [3] (fun i wr => ∃ k : Nat, k ≤ 71 ∧ i = .int .i64 k ∧ wr = w) (fun i _ => 71 - (intOf i).toNat)
  case atStart => exact ⟨0, by omega, rfl, rfl⟩
  case round =>
    obtain ⟨k, hk, rfl, rfl⟩ := hrel
    by_cases hlt : k < 71
    · have hd : decide ((k : Int) < 71) = true := by simp; omega
      obtain ⟨c, hc, hbl⟩ := hat.out k hlt
      have hix := run_ix S k c hc
      clear hc
      by_cases h6 : k % 6 = 5
      · have e1 : (k : Int) % 6 = 5 := by omega
        have e2 : (c.toNat : Int) = 32 := by have := hbl.1 (by omega); omega
        rw [e2] at hix
        clear e2 hbl
        go_wp2_with (fail)
        refine ⟨⟨k + 1, by omega, by go_num, trivial⟩, ?_⟩
        simp [intOf]; omega
      · have e1 : ¬ (k : Int) % 6 = 5 := by omega
        have e2 := hbl.2 (by omega)
        have e3 : decide ((c.toNat : Int) < 48) = false := by simp; omega
        have e4 : decide ((57 : Int) < (c.toNat : Int)) = false := by simp; omega
        generalize (c.toNat : Int) = z at *
        clear e2 hbl
        go_wp2_with (fail)
        refine ⟨⟨k + 1, by omega, by go_num, trivial⟩, ?_⟩
        simp [intOf]; omega
    · obtain rfl : k = 71 := by omega
      have hd : decide (((71 : Nat) : Int) < 71) = false := by simp
      go_wp2_with (fail)
      go_ret
      exact ⟨_, rfl, rfl, Below.refl _ _⟩

end Go.Proofs.YtdlillgkgbfheaaDoor
