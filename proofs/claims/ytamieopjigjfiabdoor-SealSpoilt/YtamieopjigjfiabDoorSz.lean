import Derived.Test.YtamieopjigjfiabDoorSe
namespace Go.Proofs.YtamieopjigjfiabDoor
set_option maxRecDepth 100000
open Go Go.RowKit Go.Sort

/-- What stands under a tag, as bytes. -/
def undB (nonce extra text : List B) : List B := lb (n8 extra.length) ++ extra ++ nonce ++ text
theorem bl_undB (nonce extra text : List B) : bl (undB nonce extra text) = und nonce extra text := by
  rw [undB, bl_app, bl_app, bl_app, bl_lb (n8_bd _), und, List.append_assoc, List.append_assoc]
theorem undB_len (nonce extra text : List B) : (undB nonce extra text).length = 8 + (extra.length + (nonce.length + text.length)) := by
  rw [← bl_len, bl_undB, und_len]
theorem own_down {W : World} {b c : Nat} {v : Value} {d : List B} (h : Own W b v d) (hc : c ≤ b) : Own W c v d := by
  obtain ⟨q1, q2 | ⟨g1, cap1, cur, hv, hbg, hq⟩⟩ := h
  · exact ⟨q1, .inl q2⟩
  · exact ⟨q1, .inr ⟨g1, cap1, cur, hv, Nat.le_trans hc hbg, hq⟩⟩
theorem own_capB {W : World} {b : Nat} {v : Value} {d : List B} (h : Own W b v d) : ∀ a l c, v = .slice a l c → l ≤ c := by
  obtain ⟨q1, q2 | ⟨g1, cap1, cur, hv, hbg, hq⟩⟩ := h
  · intro a l c e
    obtain ⟨hv, _⟩ := q2
    rw [hv] at e
    cases e
    exact Nat.le_refl _
  · intro a l c e
    rw [hv] at e
    cases e
    exact hq.2.1
theorem own_none (W : World) (b : Nat) : Own W b (.slice none 0 0) [] := ⟨rfl, .inl ⟨rfl, rfl⟩⟩
theorem tag_bys {W : World} {g : Nat} {H : List Int} {t : TypeId} (hg : W.heap[g]? = some (.cells (irow .u8 H) t (0, 0))) (hl : H.length = 32) (hz : ∀ z ∈ H, 0 ≤ z ∧ z < 256) : BysB W (.slice (some ⟨g, 0, none⟩) 16 32) (lb (H.take 16)) := by
  have hzt : ∀ z ∈ H.take 16, 0 ≤ z ∧ z < 256 := fun z h => hz z (List.mem_of_mem_take h)
  have htl : (H.take 16).length = 16 := by rw [List.length_take]; omega
  rw [← List.take_append_drop 16 H] at hg
  have h := Bys.of_prefix hg (by rw [htl]; decide) hzt 32
  rw [htl] at h
  refine ⟨by rw [bl_lb hzt]; exact h, by rw [lb_len, htl]; decide, fun a l c h h2 => by cases h; cases h2⟩
/-- What Seal answers. -/
def sle (extra plain : List B) : Int := if 2097216 < extra.length ∨ 2097216 < plain.length then 2 else 0
def slr (key nonce extra plain : List B) : List B := if 2097216 < extra.length ∨ 2097216 < plain.length then [] else bx key nonce extra plain
end Go.Proofs.YtamieopjigjfiabDoor
