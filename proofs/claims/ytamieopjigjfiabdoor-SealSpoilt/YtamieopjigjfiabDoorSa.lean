import Derived.Test.YtamieopjigjfiabDoorZd
import Derived.Test.YtamieopjigjfiabDoorXg
import Derived.Test.YtamieopjigjfiabDoorNn
namespace Go.Proofs.YtamieopjigjfiabDoor
set_option maxRecDepth 100000
open Go Go.RowKit Go.Sort

/-- Boxes on lists: bytes as BitVec 8. -/
def lb (l : List Int) : List B := l.map fun z => BitVec.ofNat 8 z.toNat
theorem lb_len (l : List Int) : (lb l).length = l.length := by simp [lb]
theorem bl_lb : ∀ {l : List Int}, (∀ z ∈ l, 0 ≤ z ∧ z < 256) → bl (lb l) = l
  | [], _ => rfl
  | z :: l, h => by
    have h1 := h z (by simp)
    have h2 := bl_lb (l := l) (fun y hy => h y (by simp [hy]))
    have e : bv (BitVec.ofNat 8 z.toNat) = z := by
      simp only [bv, BitVec.toNat_ofNat]
      omega
    show bv (BitVec.ofNat 8 z.toNat) :: bl (lb l) = z :: l
    rw [e, h2]
theorem bl_app (a b : List B) : bl (a ++ b) = bl a ++ bl b := by simp [bl]
theorem bl_take (a : List B) (n : Nat) : bl (a.take n) = (bl a).take n := by simp [bl, List.map_take]
theorem bl_drop (a : List B) (n : Nat) : bl (a.drop n) = (bl a).drop n := by simp [bl, List.map_drop]
theorem bl_inj {a b : List B} (h : bl a = bl b) : a = b := by
  induction a generalizing b with
  | nil => cases b with
    | nil => rfl
    | cons y b => simp [bl] at h
  | cons x a ih => cases b with
    | nil => simp [bl] at h
    | cons y b =>
      simp only [bl, List.map_cons, List.cons.injEq] at h
      rw [bv_inj.1 h.1, ih h.2]
theorem bl_dec (a b : List B) : decide (bl a = bl b) = decide (a = b) := by
  by_cases h : a = b
  · subst h; simp
  · rw [decide_eq_false h, decide_eq_false (fun e => h (bl_inj e))]
/-- The nine bytes. -/
def ps9 : List Int := [112, 97, 119, 108, 32, 115, 101, 97, 108]
theorem ps9_bd : ∀ z ∈ ps9, 0 ≤ z ∧ z < 256 := by decide
/-- The two keys that a key is for. -/
def ck (key : List B) : List B := lb ((xpd (bl key) ps9 64).take 32)
def tk (key : List B) : List B := lb ((xpd (bl key) ps9 64).drop 32)
theorem ck_len (key : List B) : (ck key).length = 32 := by simp [ck, lb_len, xpd_len]
theorem tk_len (key : List B) : (tk key).length = 32 := by simp [tk, lb_len, xpd_len]
theorem bl_ck (key : List B) : bl (ck key) = (xpd (bl key) ps9 64).take 32 := bl_lb (fun z h => xpd_bd _ _ _ z (List.mem_of_mem_take h))
theorem bl_tk (key : List B) : bl (tk key) = (xpd (bl key) ps9 64).drop 32 := bl_lb (fun z h => xpd_bd _ _ _ z (List.mem_of_mem_drop h))
theorem ck_tk (key : List B) : bl (ck key) ++ bl (tk key) = xpd (bl key) ps9 64 := by rw [bl_ck, bl_tk, List.take_append_drop]
/-- A number's eight bytes, the lowest first. -/
def n8f (n i : Nat) : Int := ((n / 256 ^ i % 256 : Nat) : Int)
def n8 (n : Nat) : List Int := (List.range 8).map (n8f n)
theorem n8_len (n : Nat) : (n8 n).length = 8 := by simp [n8]
theorem n8_bd (n : Nat) : ∀ z ∈ n8 n, 0 ≤ z ∧ z < 256 := by
  intro z h
  obtain ⟨i, _, rfl⟩ := List.mem_map.1 h
  simp only [n8f]
  omega
theorem n8_succ (n k : Nat) (h : k < 8) : (n8 n).take (k + 1) = (n8 n).take k ++ [n8f n k] := by
  rw [List.take_add_one]
  congr 1
  simp [n8, List.getElem?_range h]
theorem n8_lit (n : Nat) : n8 n = [(n : Int) % 256, (n : Int) / 256 % 256, (n : Int) / 65536 % 256, (n : Int) / 16777216 % 256, (n : Int) / 4294967296 % 256, (n : Int) / 1099511627776 % 256, (n : Int) / 281474976710656 % 256, (n : Int) / 72057594037927936 % 256] := by
  show [n8f n 0, n8f n 1, n8f n 2, n8f n 3, n8f n 4, n8f n 5, n8f n 6, n8f n 7] = _
  simp only [n8f, Nat.reducePow, Nat.div_one]
  congr 1
/-- What stands under a tag. -/
def und (nonce extra text : List B) : List Int := n8 extra.length ++ (bl extra ++ (bl nonce ++ bl text))
theorem und_len (nonce extra text : List B) : (und nonce extra text).length = 8 + (extra.length + (nonce.length + text.length)) := by simp [und, n8_len, bl_len]
theorem und_bd (nonce extra text : List B) : ∀ z ∈ und nonce extra text, 0 ≤ z ∧ z < 256 := both_bd (n8_bd _) (both_bd (bl_bnd _) (both_bd (bl_bnd _) (bl_bnd _)))
theorem und_flat (nonce extra text : List B) : [n8 extra.length, bl extra, bl nonce, bl text].flatten = und nonce extra text := by simp [und]
/-- The whole sum, and the tag. -/
def su (key nonce extra text : List B) : List Int := hm (bl (tk key)) (und nonce extra text)
def tg (key nonce extra text : List B) : List B := lb ((su key nonce extra text).take 16)
theorem su_len (key nonce extra text : List B) : (su key nonce extra text).length = 32 := hm_len _ _
theorem su_bd (key nonce extra text : List B) : ∀ z ∈ su key nonce extra text, 0 ≤ z ∧ z < 256 := hm_bd _ _
theorem tg_len (key nonce extra text : List B) : (tg key nonce extra text).length = 16 := by simp [tg, lb_len, su_len]
theorem bl_tg (key nonce extra text : List B) : bl (tg key nonce extra text) = (su key nonce extra text).take 16 := bl_lb (fun z h => su_bd _ _ _ _ z (List.mem_of_mem_take h))
/-- A text under the stream, and the box. -/
def cfx (key nonce text : List B) : List B := cry (ks (ck key) 60) nonce 0 text
theorem cfx_len (key nonce text : List B) : (cfx key nonce text).length = text.length := cry_len _ _ _ _
theorem cfx_cph (key nonce text : List B) : cfx key nonce (cfx key nonce text) = text := cry_cry _ _ _ _
def bx (key nonce extra text : List B) : List B := cfx key nonce text ++ tg key nonce extra (cfx key nonce text)
theorem bx_len (key nonce extra text : List B) : (bx key nonce extra text).length = text.length + 16 := by simp [bx, cfx_len, tg_len]
/-- What Open answers of bytes: the text of a box, if it is one. -/
theorem bx_text (key nonce extra text : List B) : (bx key nonce extra text).take text.length = cfx key nonce text := by
  rw [bx, List.take_append_of_le_length (by rw [cfx_len]; omega), List.take_of_length_le (by rw [cfx_len]; omega)]
theorem bx_tag (key nonce extra text : List B) : (bx key nonce extra text).drop text.length = tg key nonce extra (cfx key nonce text) := by
  rw [bx, List.drop_append_of_le_length (by rw [cfx_len]; omega), List.drop_eq_nil_of_le (by rw [cfx_len]; omega), List.nil_append]
end Go.Proofs.YtamieopjigjfiabDoor
