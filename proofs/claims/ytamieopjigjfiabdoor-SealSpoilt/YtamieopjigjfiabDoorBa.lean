import Derived.Test.YtamieopjigjfiabDoorProg
namespace Go.Proofs.YtamieopjigjfiabDoor
set_option maxRecDepth 100000
abbrev B := BitVec 8
/-- The double of a byte. -/
def dbl (a : B) : B := (a <<< 1) ^^^ ((a >>> 7) * 27#8)
def tmn : Nat → B → B → B
  | 0, _, _ => 0#8
  | n + 1, a, b => (if b.getLsbD 0 then a else 0#8) ^^^ tmn n (dbl a) (b >>> 1)
/-- The product. -/
def tm (a b : B) : B := tmn 8 a b
set_option maxRecDepth 100000 in
theorem all_b (p : B → Prop) (h : ∀ n < 256, p (BitVec.ofNat 8 n)) (a : B) : p a := by
  have := h a.toNat a.isLt
  rwa [BitVec.ofNat_toNat, BitVec.setWidth_eq] at this
theorem sel_xor (c d : Bool) (a : B) : (if (c ^^ d) then a else 0#8) = (if c then a else 0#8) ^^^ (if d then a else 0#8) := by
  cases c <;> cases d <;> simp
theorem xor4 (a b c d : B) : (a ^^^ b) ^^^ (c ^^^ d) = (a ^^^ c) ^^^ (b ^^^ d) := by ac_rfl
theorem tmn_add (n : Nat) : ∀ a b c, tmn n a (b ^^^ c) = tmn n a b ^^^ tmn n a c := by
  induction n with
  | zero => intro a b c; simp [tmn]
  | succ n ih =>
    intro a b c
    simp only [tmn, BitVec.getLsbD_xor, sel_xor, BitVec.ushiftRight_xor_distrib, ih]
    ac_rfl
theorem tm_add (a b c : B) : tm a (b ^^^ c) = tm a b ^^^ tm a c := tmn_add 8 a b c
theorem bits_of : ∀ x : B, x = (if x.getLsbD 0 then 1#8 else 0#8) ^^^ (if x.getLsbD 1 then 2#8 else 0#8) ^^^ (if x.getLsbD 2 then 4#8 else 0#8) ^^^ (if x.getLsbD 3 then 8#8 else 0#8) ^^^ (if x.getLsbD 4 then 16#8 else 0#8) ^^^ (if x.getLsbD 5 then 32#8 else 0#8) ^^^ (if x.getLsbD 6 then 64#8 else 0#8) ^^^ (if x.getLsbD 7 then 128#8 else 0#8) := by decide +kernel
def Add (f : B → B) : Prop := ∀ x y, f (x ^^^ y) = f x ^^^ f y
theorem Add.zero {f : B → B} (h : Add f) : f 0#8 = 0#8 := by
  have := h 0#8 0#8
  simpa using this
theorem Add.sel {f : B → B} (h : Add f) (c : Bool) (v : B) : f (if c then v else 0#8) = if c then f v else 0#8 := by
  cases c
  · simpa using h.zero
  · rfl
theorem lin_ext {f g : B → B} (hf : Add f) (hg : Add g) (h : ∀ i < 8, f (1#8 <<< i) = g (1#8 <<< i)) (x : B) : f x = g x := by
  have h0 : f 1#8 = g 1#8 := h 0 (by decide)
  have h1 : f 2#8 = g 2#8 := h 1 (by decide)
  have h2 : f 4#8 = g 4#8 := h 2 (by decide)
  have h3 : f 8#8 = g 8#8 := h 3 (by decide)
  have h4 : f 16#8 = g 16#8 := h 4 (by decide)
  have h5 : f 32#8 = g 32#8 := h 5 (by decide)
  have h6 : f 64#8 = g 64#8 := h 6 (by decide)
  have h7 : f 128#8 = g 128#8 := h 7 (by decide)
  rw [bits_of x]
  simp only [hf _ _, hg _ _, hf.sel, hg.sel, h0, h1, h2, h3, h4, h5, h6, h7]
theorem mul_sel : ∀ c : B, c < 2#8 → c * 27#8 = if c.getLsbD 0 then 27#8 else 0#8 := by decide +kernel
theorem shr7_lt : ∀ a : B, a >>> 7 < 2#8 := by decide +kernel
theorem dbl_add : Add dbl := by
  intro x y
  unfold dbl
  rw [mul_sel _ (shr7_lt _), mul_sel _ (shr7_lt _), mul_sel _ (shr7_lt _), BitVec.shiftLeft_xor_distrib, BitVec.ushiftRight_xor_distrib, BitVec.getLsbD_xor, sel_xor]
  ac_rfl
theorem tmn_add2 (n : Nat) : ∀ b, Add (fun a => tmn n a b) := by
  induction n with
  | zero => intro b x y; simp [tmn]
  | succ n ih =>
    intro b x y
    have h := ih (b >>> 1) (dbl x) (dbl y)
    simp only at h
    simp only [tmn, dbl_add x y, h]
    cases b.getLsbD 0 <;> simp <;> ac_rfl
theorem tm_add2 (b : B) : Add (fun a => tm a b) := tmn_add2 8 b
theorem tm_comm (a b : B) : tm a b = tm b a := by
  refine lin_ext (f := tm a) (g := fun b => tm b a) (tm_add a) (tm_add2 a) (fun i hi => ?_) b
  refine lin_ext (f := fun a => tm a (1#8 <<< i)) (g := tm (1#8 <<< i)) (tm_add2 _) (tm_add _) (fun j hj => ?_) a
  exact (by decide +kernel : ∀ i < 8, ∀ j < 8, tm (1#8 <<< j) (1#8 <<< i) = tm (1#8 <<< i) (1#8 <<< j)) i hi j hj
theorem Add.comp {f g : B → B} (hf : Add f) (hg : Add g) : Add (fun x => f (g x)) := fun x y => by
  show f (g (x ^^^ y)) = _
  rw [hg, hf]
theorem tm_assoc (a b c : B) : tm (tm a b) c = tm a (tm b c) := by
  refine lin_ext (f := fun c => tm (tm a b) c) (g := fun c => tm a (tm b c)) (tm_add _) (Add.comp (tm_add a) (tm_add b)) (fun i hi => ?_) c
  refine lin_ext (f := fun b => tm (tm a b) (1#8 <<< i)) (g := fun b => tm a (tm b (1#8 <<< i))) (Add.comp (tm_add2 _) (tm_add a)) (Add.comp (tm_add a) (tm_add2 _)) (fun j hj => ?_) b
  refine lin_ext (f := fun a => tm (tm a (1#8 <<< j)) (1#8 <<< i)) (g := fun a => tm a (tm (1#8 <<< j) (1#8 <<< i))) (Add.comp (tm_add2 _) (tm_add2 _)) (tm_add2 _) (fun k hk => ?_) a
  exact (by decide +kernel : ∀ i < 8, ∀ j < 8, ∀ k < 8, tm (tm (1#8 <<< k) (1#8 <<< j)) (1#8 <<< i) = tm (1#8 <<< k) (tm (1#8 <<< j) (1#8 <<< i))) i hi j hj k hk
theorem tm_one : ∀ a : B, tm 1#8 a = a := by decide +kernel
theorem tm_zero (a : B) : tm a 0#8 = 0#8 := (show Add (tm a) from tm_add a).zero
/-- Powers, and the power 254 by squares. -/
def pown : Nat → B → B
  | 0, _ => 1#8
  | n + 1, a => tm (pown n a) a
def qk : Nat → B → B → B
  | 0, p, _ => p
  | n + 1, p, s => qk n (tm p (tm s s)) (tm s s)
theorem pown_add (m n : Nat) (a : B) : pown (m + n) a = tm (pown m a) (pown n a) := by
  induction n with
  | zero => rw [Nat.add_zero, pown, tm_comm, tm_one]
  | succ n ih => rw [← Nat.add_assoc, pown, ih, pown, tm_assoc]
theorem qk_pown (a : B) : ∀ n k m, qk n (pown m a) (pown k a) = pown (m + 2 * k * (2 ^ n - 1)) a := by
  intro n
  induction n with
  | zero => intro k m; simp [qk]
  | succ n ih =>
    intro k m
    rw [qk, ← pown_add k k, ← pown_add m (k + k), ih (k + k) (m + (k + k))]
    congr 1
    have : 1 ≤ 2 ^ n := Nat.one_le_two_pow
    obtain ⟨q, hq⟩ : ∃ q, 2 ^ n = q + 1 := ⟨2 ^ n - 1, by omega⟩
    rw [Nat.pow_succ, hq, show (q + 1) * 2 - 1 = 2 * q + 1 by omega, Nat.add_sub_cancel]
    grind
theorem pown_254 (a : B) : pown 254 a = qk 7 1#8 a := by
  have h := qk_pown a 7 1 0
  have e : pown 1 a = a := by rw [pown, pown, tm_one]
  rw [e] at h
  exact h.symm
theorem inv_mul : ∀ a : B, a ≠ 0#8 → tm (qk 7 1#8 a) a = 1#8 := by decide +kernel
theorem tm_eq_zero (a b : B) : tm a b = 0#8 ↔ a = 0#8 ∨ b = 0#8 := by
  constructor
  · intro h
    by_cases ha : a = 0#8
    · exact .inl ha
    · right
      rw [← tm_one b, ← inv_mul a ha, tm_assoc, h, tm_zero]
  · rintro (rfl | rfl)
    · rw [tm_comm]; exact tm_zero b
    · exact tm_zero a
/-- What Sub makes of the inverse. -/
def spr (y : B) : B := y ^^^ y.rotateLeft 4 ^^^ y.rotateLeft 3 ^^^ y.rotateLeft 2 ^^^ y.rotateLeft 1 ^^^ 0x63#8
/-- A list of n bytes of which the first t are W's. -/
def pt (W : Nat → B) (n t : Nat) : List B := (List.range n).map fun j => if j < t then W j else 0#8
theorem pt_len (W : Nat → B) (n t : Nat) : (pt W n t).length = n := by simp [pt]
theorem pt_get (W : Nat → B) (n t : Nat) {j : Nat} (h : j < t) (h2 : j < n) : (pt W n t).getD j 0#8 = W j := by
  simp [pt, List.getD_eq_getElem?_getD, h2, h]
theorem pt_set (W : Nat → B) (n t : Nat) (h : t < n) : (pt W n t).set t (W t) = pt W n (t + 1) := by
  apply List.ext_getElem?
  intro j
  rw [List.getElem?_set]
  by_cases e : t = j
  · subst e
    rw [if_pos rfl, if_pos (by rw [pt_len]; exact h)]
    simp [pt, h]
  · rw [if_neg e]
    simp only [pt, List.getElem?_map]
    by_cases hj : j < n
    · simp only [List.getElem?_range hj, Option.map_some]
      by_cases h1 : j < t
      · rw [if_pos h1, if_pos (by omega)]
      · rw [if_neg h1, if_neg (by omega)]
    · rw [List.getElem?_eq_none (by simp; omega)]; rfl
/-- The powers of three, the inverses, Sub and Back of every byte, as numbers. -/
def pwN : List Nat := [1, 3, 5, 15, 17, 51, 85, 255, 26, 46, 114, 150, 161, 248, 19, 53, 95, 225, 56, 72, 216, 115, 149, 164, 247, 2, 6, 10, 30, 34, 102, 170, 229, 52, 92, 228, 55, 89, 235, 38, 106, 190, 217, 112, 144, 171, 230, 49, 83, 245, 4, 12, 20, 60, 68, 204, 79, 209, 104, 184, 211, 110, 178, 205, 76, 212, 103, 169, 224, 59, 77, 215, 98, 166, 241, 8, 24, 40, 120, 136, 131, 158, 185, 208, 107, 189, 220, 127, 129, 152, 179, 206, 73, 219, 118, 154, 181, 196, 87, 249, 16, 48, 80, 240, 11, 29, 39, 105, 187, 214, 97, 163, 254, 25, 43, 125, 135, 146, 173, 236, 47, 113, 147, 174, 233, 32, 96, 160, 251, 22, 58, 78, 210, 109, 183, 194, 93, 231, 50, 86, 250, 21, 63, 65, 195, 94, 226, 61, 71, 201, 64, 192, 91, 237, 44, 116, 156, 191, 218, 117, 159, 186, 213, 100, 172, 239, 42, 126, 130, 157, 188, 223, 122, 142, 137, 128, 155, 182, 193, 88, 232, 35, 101, 175, 234, 37, 111, 177, 200, 67, 197, 84, 252, 31, 33, 99, 165, 244, 7, 9, 27, 45, 119, 153, 176, 203, 70, 202, 69, 207, 74, 222, 121, 139, 134, 145, 168, 227, 62, 66, 198, 81, 243, 14, 18, 54, 90, 238, 41, 123, 141, 140, 143, 138, 133, 148, 167, 242, 13, 23, 57, 75, 221, 124, 132, 151, 162, 253, 28, 36, 108, 180, 199, 82, 246, 1]
def ivN : List Nat := [0, 1, 141, 246, 203, 82, 123, 209, 232, 79, 41, 192, 176, 225, 229, 199, 116, 180, 170, 75, 153, 43, 96, 95, 88, 63, 253, 204, 255, 64, 238, 178, 58, 110, 90, 241, 85, 77, 168, 201, 193, 10, 152, 21, 48, 68, 162, 194, 44, 69, 146, 108, 243, 57, 102, 66, 242, 53, 32, 111, 119, 187, 89, 25, 29, 254, 55, 103, 45, 49, 245, 105, 167, 100, 171, 19, 84, 37, 233, 9, 237, 92, 5, 202, 76, 36, 135, 191, 24, 62, 34, 240, 81, 236, 97, 23, 22, 94, 175, 211, 73, 166, 54, 67, 244, 71, 145, 223, 51, 147, 33, 59, 121, 183, 151, 133, 16, 181, 186, 60, 182, 112, 208, 6, 161, 250, 129, 130, 131, 126, 127, 128, 150, 115, 190, 86, 155, 158, 149, 217, 247, 2, 185, 164, 222, 106, 50, 109, 216, 138, 132, 114, 42, 20, 159, 136, 249, 220, 137, 154, 251, 124, 46, 195, 143, 184, 101, 72, 38, 200, 18, 74, 206, 231, 210, 98, 12, 224, 31, 239, 17, 117, 120, 113, 165, 142, 118, 61, 189, 188, 134, 87, 11, 40, 47, 163, 218, 212, 228, 15, 169, 39, 83, 4, 27, 252, 172, 230, 122, 7, 174, 99, 197, 219, 226, 234, 148, 139, 196, 213, 157, 248, 144, 107, 177, 13, 214, 235, 198, 14, 207, 173, 8, 78, 215, 227, 93, 80, 30, 179, 91, 35, 56, 52, 104, 70, 3, 140, 221, 156, 125, 160, 205, 26, 65, 28]
def sbN : List Nat := [99, 124, 119, 123, 242, 107, 111, 197, 48, 1, 103, 43, 254, 215, 171, 118, 202, 130, 201, 125, 250, 89, 71, 240, 173, 212, 162, 175, 156, 164, 114, 192, 183, 253, 147, 38, 54, 63, 247, 204, 52, 165, 229, 241, 113, 216, 49, 21, 4, 199, 35, 195, 24, 150, 5, 154, 7, 18, 128, 226, 235, 39, 178, 117, 9, 131, 44, 26, 27, 110, 90, 160, 82, 59, 214, 179, 41, 227, 47, 132, 83, 209, 0, 237, 32, 252, 177, 91, 106, 203, 190, 57, 74, 76, 88, 207, 208, 239, 170, 251, 67, 77, 51, 133, 69, 249, 2, 127, 80, 60, 159, 168, 81, 163, 64, 143, 146, 157, 56, 245, 188, 182, 218, 33, 16, 255, 243, 210, 205, 12, 19, 236, 95, 151, 68, 23, 196, 167, 126, 61, 100, 93, 25, 115, 96, 129, 79, 220, 34, 42, 144, 136, 70, 238, 184, 20, 222, 94, 11, 219, 224, 50, 58, 10, 73, 6, 36, 92, 194, 211, 172, 98, 145, 149, 228, 121, 231, 200, 55, 109, 141, 213, 78, 169, 108, 86, 244, 234, 101, 122, 174, 8, 186, 120, 37, 46, 28, 166, 180, 198, 232, 221, 116, 31, 75, 189, 139, 138, 112, 62, 181, 102, 72, 3, 246, 14, 97, 53, 87, 185, 134, 193, 29, 158, 225, 248, 152, 17, 105, 217, 142, 148, 155, 30, 135, 233, 206, 85, 40, 223, 140, 161, 137, 13, 191, 230, 66, 104, 65, 153, 45, 15, 176, 84, 187, 22]
def bkN : List Nat := [82, 9, 106, 213, 48, 54, 165, 56, 191, 64, 163, 158, 129, 243, 215, 251, 124, 227, 57, 130, 155, 47, 255, 135, 52, 142, 67, 68, 196, 222, 233, 203, 84, 123, 148, 50, 166, 194, 35, 61, 238, 76, 149, 11, 66, 250, 195, 78, 8, 46, 161, 102, 40, 217, 36, 178, 118, 91, 162, 73, 109, 139, 209, 37, 114, 248, 246, 100, 134, 104, 152, 22, 212, 164, 92, 204, 93, 101, 182, 146, 108, 112, 72, 80, 253, 237, 185, 218, 94, 21, 70, 87, 167, 141, 157, 132, 144, 216, 171, 0, 140, 188, 211, 10, 247, 228, 88, 5, 184, 179, 69, 6, 208, 44, 30, 143, 202, 63, 15, 2, 193, 175, 189, 3, 1, 19, 138, 107, 58, 145, 17, 65, 79, 103, 220, 234, 151, 242, 207, 206, 240, 180, 230, 115, 150, 172, 116, 34, 231, 173, 53, 133, 226, 249, 55, 232, 28, 117, 223, 110, 71, 241, 26, 113, 29, 41, 197, 137, 111, 183, 98, 14, 170, 24, 190, 27, 252, 86, 62, 75, 198, 210, 121, 32, 154, 219, 192, 254, 120, 205, 90, 244, 31, 221, 168, 51, 136, 7, 199, 49, 177, 18, 16, 89, 39, 128, 236, 95, 96, 81, 127, 169, 25, 181, 74, 13, 45, 229, 122, 159, 147, 201, 156, 239, 160, 224, 59, 77, 174, 42, 245, 176, 200, 235, 187, 60, 131, 83, 153, 97, 23, 43, 4, 126, 186, 119, 214, 38, 225, 105, 20, 99, 85, 33, 12, 125]
def ob (l : List Nat) (x : Nat) : B := BitVec.ofNat 8 (l.getD x 0)
def sb (x : B) : B := ob sbN x.toNat
def bk (x : B) : B := ob bkN x.toNat
def pw (x : Nat) : B := ob pwN x
def iv (x : Nat) : B := ob ivN x
theorem pw_zero : pw 0 = 1#8 := by decide +kernel
theorem pw_succ : ∀ i < 255, pw (i + 1) = pw i ^^^ dbl (pw i) := by decide +kernel
theorem iv_qk : ∀ x < 256, iv x = qk 7 1#8 (BitVec.ofNat 8 x) := by decide +kernel
theorem sb_spr : ∀ x < 256, sb (BitVec.ofNat 8 x) = spr (iv x) := by decide +kernel
theorem bk_sb : ∀ x : B, bk (sb x) = x := by decide +kernel
theorem sb_bk : ∀ x : B, sb (bk x) = x := by decide +kernel
theorem sb_qk (x : B) : sb x = spr (qk 7 1#8 x) := by
  have h := sb_spr x.toNat x.isLt
  rw [iv_qk x.toNat x.isLt, BitVec.ofNat_toNat, BitVec.setWidth_eq] at h
  exact h
/-- Lists filled at places of their own. -/
def fil (p : Nat → Nat) (v : Nat → B) : Nat → List B
  | 0 => List.replicate 256 0#8
  | k + 1 => (fil p v k).set (p k) (v k)
theorem fil_len (p : Nat → Nat) (v : Nat → B) (k : Nat) : (fil p v k).length = 256 := by
  induction k with
  | zero => exact List.length_replicate
  | succ k ih => rw [fil, List.length_set, ih]
/-- What lies at a place behind the last that was written there. -/
theorem fil_get (p : Nat → Nat) (v : Nat → B) (k x : Nat) (j : Nat) (hj : j < k) (hp : p j = x) (hx : x < 256) (hl : ∀ i, j < i → i < k → p i ≠ x) : (fil p v k).getD x 0#8 = v j := by
  induction k with
  | zero => omega
  | succ k ih =>
    rw [fil]
    by_cases e : j = k
    · subst e
      rw [hp, List.getD_eq_getElem?_getD, List.getElem?_set, if_pos rfl, if_pos (by rw [fil_len]; exact hx)]
      rfl
    · rw [List.getD_eq_getElem?_getD, List.getElem?_set, if_neg (hl k (by omega) (by omega)), ← List.getD_eq_getElem?_getD]
      exact ih (by omega) (fun i h1 h2 => hl i h1 (by omega))
def ou : Nat → List B := fil (fun k => (pw k).toNat) (fun k => pw (255 - k))
def bo : Nat → List B := fil (fun k => (sb (BitVec.ofNat 8 k)).toNat) (fun k => BitVec.ofNat 8 k)
theorem all_pt (l : List B) (W : Nat → B) (hl : l.length = 256) (h : ∀ x < 256, l.getD x 0#8 = W x) : l = pt W 256 256 := by
  apply List.ext_getElem (by rw [hl, pt_len])
  intro i h1 h2
  have := h i (by omega)
  have e := pt_get W 256 256 (j := i) (by omega) (by omega)
  rw [List.getD_eq_getElem?_getD, List.getElem?_eq_getElem h1] at this
  rw [List.getD_eq_getElem?_getD, List.getElem?_eq_getElem h2] at e
  exact this.trans e.symm
/-- The number of the power that a byte is; 0 aside. -/
def lgN : List Nat := [0, 0, 25, 1, 50, 2, 26, 198, 75, 199, 27, 104, 51, 238, 223, 3, 100, 4, 224, 14, 52, 141, 129, 239, 76, 113, 8, 200, 248, 105, 28, 193, 125, 194, 29, 181, 249, 185, 39, 106, 77, 228, 166, 114, 154, 201, 9, 120, 101, 47, 138, 5, 33, 15, 225, 36, 18, 240, 130, 69, 53, 147, 218, 142, 150, 143, 219, 189, 54, 208, 206, 148, 19, 92, 210, 241, 64, 70, 131, 56, 102, 221, 253, 48, 191, 6, 139, 98, 179, 37, 226, 152, 34, 136, 145, 16, 126, 110, 72, 195, 163, 182, 30, 66, 58, 107, 40, 84, 250, 133, 61, 186, 43, 121, 10, 21, 155, 159, 94, 202, 78, 212, 172, 229, 243, 115, 167, 87, 175, 88, 168, 80, 244, 234, 214, 116, 79, 174, 233, 213, 231, 230, 173, 232, 44, 215, 117, 122, 235, 22, 11, 245, 89, 203, 95, 176, 156, 169, 81, 160, 127, 12, 246, 111, 23, 196, 73, 236, 216, 67, 31, 45, 164, 118, 123, 183, 204, 187, 62, 90, 251, 96, 177, 134, 59, 82, 161, 108, 170, 85, 41, 157, 151, 178, 135, 144, 97, 190, 220, 252, 188, 149, 207, 205, 55, 63, 91, 209, 83, 57, 132, 60, 65, 162, 109, 71, 20, 42, 158, 93, 86, 242, 211, 171, 68, 17, 146, 217, 35, 32, 46, 137, 180, 124, 184, 38, 119, 153, 227, 165, 103, 74, 237, 222, 197, 49, 254, 24, 13, 99, 140, 128, 192, 247, 112, 7]
theorem lg_pw : ∀ x < 256, x ≠ 0 → lgN.getD x 0 < 255 ∧ pw (lgN.getD x 0) = BitVec.ofNat 8 x ∧ pw (255 - lgN.getD x 0) = iv x := by decide +kernel
theorem pw_lg : ∀ i < 255, lgN.getD (pw i).toNat 0 = i ∧ (pw i).toNat ≠ 0 := by decide +kernel
theorem ou_zero : ∀ k ≤ 256, (ou k).getD 0 0#8 = 0#8 := by
  intro k
  induction k with
  | zero => intro _; rfl
  | succ k ih =>
    intro h
    have h2 : (pw k).toNat ≠ 0 := (by decide +kernel : ∀ i < 256, (pw i).toNat ≠ 0) k (by omega)
    show ((ou k).set (pw k).toNat (pw (255 - k))).getD 0 0#8 = _
    rw [List.getD_eq_getElem?_getD, List.getElem?_set, if_neg h2, ← List.getD_eq_getElem?_getD]
    exact ih (by omega)
theorem ou_all : ou 256 = pt iv 256 256 := by
  refine all_pt (ou 256) iv (fil_len _ _ _) (fun x hx => ?_)
  by_cases h0 : x = 0
  · subst h0; rw [ou_zero 256 (by omega)]; decide +kernel
  · obtain ⟨h1, h2, h3⟩ := lg_pw x hx h0
    by_cases h9 : x = 1
    · subst h9
      exact (fil_get _ _ 256 1 255 (by omega) (by decide +kernel) (by omega) (fun i h1 h2 => by omega)).trans (by decide +kernel)
    · refine (fil_get _ _ 256 x (lgN.getD x 0) (by omega) (by rw [h2, BitVec.toNat_ofNat]; omega) hx (fun i h4 h5 e => ?_)).trans h3
      by_cases h6 : i < 255
      · have := (pw_lg i h6).1
        rw [e] at this
        omega
      · obtain rfl : i = 255 := by omega
        have : (pw 255).toNat = 1 := by decide +kernel
        omega
theorem bo_all : bo 256 = pt (fun x => bk (BitVec.ofNat 8 x)) 256 256 := by
  refine all_pt (bo 256) _ (fil_len _ _ _) (fun x hx => ?_)
  have hb := (bk (BitVec.ofNat 8 x)).isLt
  refine (fil_get _ _ 256 x (bk (BitVec.ofNat 8 x)).toNat hb ?_ hx (fun i h1 h2 e => ?_)).trans (by rw [BitVec.ofNat_toNat, BitVec.setWidth_eq])
  · show (sb (BitVec.ofNat 8 (bk (BitVec.ofNat 8 x)).toNat)).toNat = x
    rw [BitVec.ofNat_toNat, BitVec.setWidth_eq, sb_bk, BitVec.toNat_ofNat]
    omega
  · have h3 : sb (BitVec.ofNat 8 i) = BitVec.ofNat 8 x := by
      apply BitVec.eq_of_toNat_eq
      rw [BitVec.toNat_ofNat]
      omega
    have h4 : bk (BitVec.ofNat 8 x) = BitVec.ofNat 8 i := by rw [← h3, bk_sb]
    rw [h4, BitVec.toNat_ofNat] at h1
    omega
end Go.Proofs.YtamieopjigjfiabDoor
