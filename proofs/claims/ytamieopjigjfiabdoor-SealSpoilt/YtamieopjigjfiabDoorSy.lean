import Derived.Test.YtamieopjigjfiabDoorSz
namespace Go.Proofs.YtamieopjigjfiabDoor
set_option maxRecDepth 100000
open Go Go.RowKit Go.Sort

/-- What Open answers. -/
def obx (box : List B) : List B := box.take (box.length - 16)
def otg (box : List B) : List B := box.drop (box.length - 16)
def ope (key nonce extra box : List B) : Int := if 2097216 < extra.length ∨ 2097232 < box.length then 2 else if box.length < 16 then 60 else if otg box = tg key nonce extra (obx box) then 0 else 61
def opr (key nonce extra box : List B) : List B := if 2097216 < extra.length ∨ 2097232 < box.length then [] else if box.length < 16 then [] else if otg box = tg key nonce extra (obx box) then cfx key nonce (obx box) else []
theorem obx_len (box : List B) : (obx box).length = box.length - 16 := by rw [obx, List.length_take]; omega
theorem otg_len (box : List B) (h : 16 ≤ box.length) : (otg box).length = 16 := by rw [otg, List.length_drop]; omega
theorem bysB_take {W : World} {ao : Option Addr} {cap m : Nat} {d : List B} (h : BysB W (.slice ao d.length cap) d) (hm : m ≤ d.length) : BysB W (.slice ao m cap) (d.take m) := by
  obtain ⟨h1, h2, h3⟩ := h
  rw [← bl_len] at h1
  have h4 := Bys.take (n := m) h1 (by rw [bl_len]; exact hm)
  rw [← bl_take] at h4
  exact ⟨h4, by rw [List.length_take]; omega, fun a l c h hn => h3 a d.length c (by cases h; rfl) hn⟩
theorem bysB_drop {W : World} {b off cap m n : Nat} {d : List B} (h : BysB W (.slice (some ⟨b, off, none⟩) d.length cap) d) (hm : m ≤ d.length) (hn : d.length - m = n) (cap' : Nat) : BysB W (.slice (some ⟨b, off + m, none⟩) n cap') (d.drop m) := by
  obtain ⟨⟨ao', c', e, hl, hc, hz⟩, h2, _⟩ := h
  rw [bl_len] at e
  cases e
  subst hn
  have hln : (bl (d.drop m)).length = d.length - m := by rw [bl_len, List.length_drop]
  rw [bl_len] at hl hc
  refine ⟨⟨_, cap', by rw [hln], by rw [hln]; omega, fun j hj => ?_, bl_bnd _⟩, by rw [List.length_drop]; omega, fun a l c h h2 => by cases h; cases h2⟩
  rw [hln] at hj
  obtain ⟨b2, off2, e2, hb, hcell⟩ := hc (m + j) (by omega)
  cases e2
  refine ⟨b, off + m, rfl, hb, ?_⟩
  rw [show off + m + j = off + (m + j) by omega, hcell, bl_drop, List.getD_eq_getElem?_getD, List.getD_eq_getElem?_getD, List.getElem?_drop]
theorem bysB_some {W : World} {v : Value} {d : List B} (h : BysB W v d) (h0 : 0 < d.length) : ∃ b off cap, v = .slice (some ⟨b, off, none⟩) d.length cap := by
  obtain ⟨⟨ao, cap, e, _, hc, _⟩, _⟩ := h
  rw [bl_len] at e hc
  obtain ⟨b, off, e2, _⟩ := hc 0 h0
  exact ⟨b, off, cap, by rw [e, e2]⟩
theorem sl_head (ao : Option Addr) (len cap : Nat) (h16 : 16 ≤ len) (hc : len ≤ cap) (W : World) : (Instr.sliceAt 26 (.slice ao len cap) none (some (.int .i64 ((len : Int) - 16))) none).run Tryd.prog W = .ok (.slice ao (len - 16) cap) W := by
  have h := slice_to ao len cap (len - 16) (by omega) W
  rwa [show ((len - 16 : Nat) : Int) = (len : Int) - 16 by omega] at h
theorem sl_tail (b off len cap : Nat) (h16 : 16 ≤ len) (hc : len ≤ cap) (W : World) : (Instr.sliceAt 26 (.slice (some ⟨b, off, none⟩) len cap) (some (.int .i64 ((len : Int) - 16))) none none).run Tryd.prog W = .ok (.slice (some ⟨b, off + (len - 16), none⟩) 16 (cap - (len - 16))) W := by
  obtain ⟨ao2, h1, h2⟩ := slice_rest b off len cap (len - 16) (by omega) hc
  have h := h2 W
  rw [h1 (by omega), show len - (len - 16) = 16 by omega] at h
  rwa [show ((len - 16 : Nat) : Int) = (len : Int) - 16 by omega] at h
end Go.Proofs.YtamieopjigjfiabDoor
