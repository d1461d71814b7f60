import Derived.Test.YtamieopjigjfiabDoorSy
namespace Go.Proofs.YtamieopjigjfiabDoor
set_option maxRecDepth 100000
open Go Go.RowKit Go.Sort

theorem obx_bx (key nonce extra p : List B) : obx (bx key nonce extra p) = cfx key nonce p := by
  rw [obx, bx_len, Nat.add_sub_cancel, bx_text]
theorem otg_bx (key nonce extra p : List B) : otg (bx key nonce extra p) = tg key nonce extra (cfx key nonce p) := by
  rw [otg, bx_len, Nat.add_sub_cancel, bx_tag]
theorem not_long {a b x y : Nat} (h1 : a ≤ x) (h2 : b ≤ y) : ¬ (x < a ∨ y < b) := by omega
/-- What was sealed is opened. -/
theorem ope_bx (key nonce extra p : List B) (he : extra.length ≤ 2097216) (hp : p.length ≤ 2097216) : ope key nonce extra (bx key nonce extra p) = 0 ∧ opr key nonce extra (bx key nonce extra p) = p := by
  have h1 : ¬ (2097216 < extra.length ∨ 2097232 < (bx key nonce extra p).length) := by rw [bx_len]; omega
  have h2 : ¬ (bx key nonce extra p).length < 16 := by rw [bx_len]; omega
  rw [ope, opr, if_neg h1, if_neg h1, if_neg h2, if_neg h2, obx_bx, otg_bx, if_pos rfl, if_pos rfl, cfx_cph]
  exact ⟨rfl, rfl⟩
/-- Nothing else is. -/
theorem slr_opr (key nonce extra box : List B) (h : ope key nonce extra box = 0) : slr key nonce extra (opr key nonce extra box) = box ∧ sle extra (opr key nonce extra box) = 0 := by
  rw [ope] at h
  by_cases h1 : 2097216 < extra.length ∨ 2097232 < box.length
  · rw [if_pos h1] at h; exact absurd h (by decide)
  rw [if_neg h1] at h
  by_cases h2 : box.length < 16
  · rw [if_pos h2] at h; exact absurd h (by decide)
  rw [if_neg h2] at h
  by_cases h3 : otg box = tg key nonce extra (obx box)
  · have e : opr key nonce extra box = cfx key nonce (obx box) := by rw [opr, if_neg h1, if_neg h2, if_pos h3]
    have hl := obx_len box
    have h4 : ¬ (2097216 < extra.length ∨ 2097216 < (cfx key nonce (obx box)).length) := by rw [cfx_len]; omega
    rw [e, slr, sle, if_neg h4, if_neg h4, bx, cfx_cph, ← h3, obx, otg, List.take_append_drop]
    exact ⟨rfl, rfl⟩
  · rw [if_neg h3] at h; exact absurd h (by decide)
theorem opr_err (key nonce extra box : List B) (h : ope key nonce extra box ≠ 0) : opr key nonce extra box = [] := by
  rw [ope] at h
  rw [opr]
  split
  · rfl
  rename_i h1
  rw [if_neg h1] at h
  split
  · rfl
  rename_i h2
  rw [if_neg h2] at h
  split
  · rename_i h3
    rw [if_pos h3] at h
    exact absurd rfl h
  · rfl
theorem ope_mem (key nonce extra box : List B) : ope key nonce extra box = 2 ∨ ope key nonce extra box = 60 ∨ ope key nonce extra box = 61 ∨ ope key nonce extra box = 0 := by
  rw [ope]
  split
  · exact .inl rfl
  split
  · exact .inr (.inl rfl)
  split
  · exact .inr (.inr (.inr rfl))
  · exact .inr (.inr (.inl rfl))
theorem slr_ok (key nonce extra p : List B) (he : extra.length ≤ 2097216) (hp : p.length ≤ 2097216) : slr key nonce extra p = bx key nonce extra p ∧ sle extra p = 0 := by
  have h : ¬ (2097216 < extra.length ∨ 2097216 < p.length) := by omega
  rw [slr, sle, if_neg h, if_neg h]
  exact ⟨rfl, rfl⟩
theorem slr_no (key nonce extra p : List B) (h : 2097216 < extra.length ∨ 2097216 < p.length) : slr key nonce extra p = [] ∧ sle extra p = 2 := by
  rw [slr, sle, if_pos h, if_pos h]
  exact ⟨rfl, rfl⟩
end Go.Proofs.YtamieopjigjfiabDoor
