import Derived.Test.YtamieopjigjfiabDoorWc
import Derived.Test.YtamieopjigjfiabDoorProg
import Derived.WalkKit
import Derived.WalkSpells
import Derived.WalkLawsBesides
import Derived.Lib.QuietBelow
import Derived.BigQuiet
import Derived.Test.YtamieopjigjfiabDoorKa
namespace Go.Proofs.YtamieopjigjfiabDoor
set_option maxRecDepth 100000
open Go Go.RowKit Go.Sort

/-! Blocks as lists of sixteen bytes, and what is done on them. -/
theorem ext16 {l m : List B} (hl : l.length = 16) (hm : m.length = 16) (h : ∀ i < 16, l.getD i 0#8 = m.getD i 0#8) : l = m := by
  apply List.ext_getElem (by omega)
  intro i h1 h2
  have := h i (by omega)
  rwa [List.getD_eq_getElem?_getD, List.getElem?_eq_getElem h1, List.getD_eq_getElem?_getD, List.getElem?_eq_getElem h2] at this
def mk16 (f : Nat → B) : List B := pt f 16 16
theorem mk16_len (f : Nat → B) : (mk16 f).length = 16 := pt_len _ _ _
theorem mk16_get (f : Nat → B) {i : Nat} (h : i < 16) : (mk16 f).getD i 0#8 = f i := pt_get f 16 16 h h
def xorL (a b : List B) : List B := mk16 fun i => a.getD i 0#8 ^^^ b.getD i 0#8
def subL (l : List B) : List B := mk16 fun i => sb (l.getD i 0#8)
def unsubL (l : List B) : List B := mk16 fun i => bk (l.getD i 0#8)
def shiftL (l : List B) : List B := mk16 fun i => l.getD (i % 4 + 4 * ((i / 4 + i % 4) % 4)) 0#8
def unshiftL (l : List B) : List B := mk16 fun i => l.getD (i % 4 + 4 * ((i / 4 + 4 - i % 4) % 4)) 0#8
/-- The byte r of the column c, around and around. -/
def mg (l : List B) (c r : Nat) : B := l.getD (4 * c + r % 4) 0#8
def mixL (l : List B) : List B := mk16 fun i => dbl (mg l (i / 4) (i % 4)) ^^^ dbl (mg l (i / 4) (i % 4 + 1)) ^^^ mg l (i / 4) (i % 4 + 1) ^^^ mg l (i / 4) (i % 4 + 2) ^^^ mg l (i / 4) (i % 4 + 3)
def unmixL (l : List B) : List B := mixL (mixL (mixL l))
theorem xorL_get (a b : List B) {i : Nat} (h : i < 16) : (xorL a b).getD i 0#8 = a.getD i 0#8 ^^^ b.getD i 0#8 := mk16_get _ h
theorem subL_get (l : List B) {i : Nat} (h : i < 16) : (subL l).getD i 0#8 = sb (l.getD i 0#8) := mk16_get _ h
theorem unsubL_get (l : List B) {i : Nat} (h : i < 16) : (unsubL l).getD i 0#8 = bk (l.getD i 0#8) := mk16_get _ h
theorem shiftL_get (l : List B) {i : Nat} (h : i < 16) : (shiftL l).getD i 0#8 = l.getD (i % 4 + 4 * ((i / 4 + i % 4) % 4)) 0#8 := mk16_get _ h
theorem unshiftL_get (l : List B) {i : Nat} (h : i < 16) : (unshiftL l).getD i 0#8 = l.getD (i % 4 + 4 * ((i / 4 + 4 - i % 4) % 4)) 0#8 := mk16_get _ h
theorem xorL_len (a b : List B) : (xorL a b).length = 16 := mk16_len _
theorem subL_len (l : List B) : (subL l).length = 16 := mk16_len _
theorem unsubL_len (l : List B) : (unsubL l).length = 16 := mk16_len _
theorem shiftL_len (l : List B) : (shiftL l).length = 16 := mk16_len _
theorem unshiftL_len (l : List B) : (unshiftL l).length = 16 := mk16_len _
theorem mg_add4 (l : List B) (c r : Nat) : mg l c (r + 4) = mg l c r := by
  unfold mg; rw [Nat.add_mod_right]
theorem mg_mod (l : List B) (c r : Nat) (k : Nat) : mg l c (r % 4 + k) = mg l c (r + k) := by
  unfold mg; rw [show (r % 4 + k) % 4 = (r + k) % 4 by omega]
theorem mg_mod0 (l : List B) (c r : Nat) : mg l c (r % 4) = mg l c r := by
  unfold mg; rw [Nat.mod_mod]
theorem mg_mix (l : List B) (c r : Nat) (hc : c < 4) : mg (mixL l) c r = dbl (mg l c r) ^^^ dbl (mg l c (r + 1)) ^^^ mg l c (r + 1) ^^^ mg l c (r + 2) ^^^ mg l c (r + 3) := by
  have h1 : (4 * c + r % 4) / 4 = c := by omega
  have h2 : (4 * c + r % 4) % 4 = r % 4 := by omega
  rw [mg, mixL, mk16_get _ (by omega), h1, h2]
  simp only [mg_mod, mg_mod0]
theorem xor_cancel (x y : B) : x ^^^ (x ^^^ y) = y := by rw [← BitVec.xor_assoc, BitVec.xor_self, BitVec.zero_xor]
theorem xor_lc (x y z : B) : x ^^^ (y ^^^ z) = y ^^^ (x ^^^ z) := by ac_rfl
theorem mix2 (l : List B) (c r : Nat) (hc : c < 4) : mg (mixL (mixL l)) c r = dbl (dbl (mg l c r)) ^^^ mg l c r ^^^ dbl (dbl (mg l c (r + 2))) := by
  simp only [mg_mix _ _ _ hc, dbl_add _ _, Nat.add_assoc, Nat.reduceAdd]
  have e4 : mg l c (r + 4) = mg l c r := mg_add4 l c r
  have e5 : mg l c (r + 5) = mg l c (r + 1) := mg_add4 l c (r + 1)
  have e6 : mg l c (r + 6) = mg l c (r + 2) := mg_add4 l c (r + 2)
  simp only [e4, e5, e6]
  generalize mg l c r = a
  generalize mg l c (r + 1) = b
  generalize mg l c (r + 2) = d
  generalize mg l c (r + 3) = e
  generalize dbl (dbl a) = a2
  generalize dbl (dbl b) = b2
  generalize dbl (dbl d) = d2
  generalize dbl (dbl e) = e2
  generalize dbl a = a1
  generalize dbl b = b1
  generalize dbl d = d1
  generalize dbl e = e1
  simp only [BitVec.xor_assoc, BitVec.xor_comm, xor_lc, xor_cancel, BitVec.xor_self, BitVec.xor_zero]
theorem mix4 (l : List B) (c r : Nat) (hc : c < 4) : mg (mixL (mixL (mixL (mixL l)))) c r = mg l c r := by
  simp only [mix2 _ _ _ hc, dbl_add _ _, Nat.add_assoc, Nat.reduceAdd]
  have e4 : mg l c (r + 4) = mg l c r := mg_add4 l c r
  simp only [e4]
  generalize mg l c r = a
  generalize mg l c (r + 2) = d
  generalize dbl (dbl (dbl (dbl a))) = a4
  generalize dbl (dbl (dbl (dbl d))) = d4
  generalize dbl (dbl a) = a2
  generalize dbl (dbl d) = d2
  simp only [BitVec.xor_assoc, BitVec.xor_comm, xor_lc, xor_cancel, BitVec.xor_self, BitVec.xor_zero]
theorem mix_len (l : List B) : (mixL l).length = 16 := mk16_len _
theorem unmix_len (l : List B) : (unmixL l).length = 16 := mk16_len _
theorem mg_at (l : List B) (i : Nat) (_h : i < 16) : l.getD i 0#8 = mg l (i / 4) (i % 4) := by
  unfold mg; rw [show 4 * (i / 4) + i % 4 % 4 = i by omega]
theorem mix_four (l : List B) (hl : l.length = 16) : mixL (mixL (mixL (mixL l))) = l := by
  apply ext16 (mix_len _) hl
  intro i hi
  rw [mg_at _ i hi, mg_at l i hi, mix4 _ _ _ (by omega)]
theorem unmix_mix (l : List B) (hl : l.length = 16) : unmixL (mixL l) = l := mix_four l hl
theorem mix_unmix (l : List B) (hl : l.length = 16) : mixL (unmixL l) = l := mix_four l hl
theorem xor_xor (l k : List B) (hl : l.length = 16) : xorL (xorL l k) k = l := by
  apply ext16 (xorL_len _ _) hl
  intro i hi
  rw [xorL_get _ _ hi, xorL_get _ _ hi, BitVec.xor_assoc, BitVec.xor_self, BitVec.xor_zero]
theorem unsub_sub (l : List B) (hl : l.length = 16) : unsubL (subL l) = l := by
  apply ext16 (unsubL_len _) hl
  intro i hi
  rw [unsubL_get _ hi, subL_get _ hi, bk_sb]
theorem sub_unsub (l : List B) (hl : l.length = 16) : subL (unsubL l) = l := by
  apply ext16 (subL_len _) hl
  intro i hi
  rw [subL_get _ hi, unsubL_get _ hi, sb_bk]
theorem sh_un : ∀ i < 16, (i % 4 + 4 * ((i / 4 + 4 - i % 4) % 4)) % 4 + 4 * (((i % 4 + 4 * ((i / 4 + 4 - i % 4) % 4)) / 4 + (i % 4 + 4 * ((i / 4 + 4 - i % 4) % 4)) % 4) % 4) = i := by decide +kernel
theorem un_sh : ∀ i < 16, (i % 4 + 4 * ((i / 4 + i % 4) % 4)) % 4 + 4 * (((i % 4 + 4 * ((i / 4 + i % 4) % 4)) / 4 + 4 - (i % 4 + 4 * ((i / 4 + i % 4) % 4)) % 4) % 4) = i := by decide +kernel
theorem unshift_shift (l : List B) (hl : l.length = 16) : unshiftL (shiftL l) = l := by
  apply ext16 (unshiftL_len _) hl
  intro i hi
  rw [unshiftL_get _ hi, shiftL_get _ (by omega), sh_un i hi]
theorem shift_unshift (l : List B) (hl : l.length = 16) : shiftL (unshiftL l) = l := by
  apply ext16 (shiftL_len _) hl
  intro i hi
  rw [shiftL_get _ hi, unshiftL_get _ (by omega), un_sh i hi]
/-- The key of a round, out of all of them. -/
def kr (K : List B) (r : Nat) : List B := mk16 fun i => K.getD (16 * r + i) 0#8
/-- A block behind so many rounds. -/
def rnd5 (K l : List B) : Nat → List B
  | 0 => xorL l (kr K 0)
  | n + 1 => xorL (mixL (shiftL (subL (rnd5 K l n)))) (kr K (n + 1))
def enc (K l : List B) : List B := xorL (shiftL (subL (rnd5 K l 13))) (kr K 14)
/-- And back. -/
def dnd (K l : List B) : Nat → List B
  | 0 => unsubL (unshiftL (xorL l (kr K 14)))
  | n + 1 => unsubL (unshiftL (unmixL (xorL (dnd K l n) (kr K (13 - n)))))
def dec (K l : List B) : List B := xorL (dnd K l 13) (kr K 0)
theorem rnd_len (K l : List B) (n : Nat) : (rnd5 K l n).length = 16 := by cases n <;> exact mk16_len _
theorem enc_len (K l : List B) : (enc K l).length = 16 := mk16_len _
theorem dnd_len (K l : List B) (n : Nat) : (dnd K l n).length = 16 := by cases n <;> exact mk16_len _
theorem dec_len (K l : List B) : (dec K l).length = 16 := mk16_len _
theorem dnd_enc (K l : List B) : ∀ n ≤ 13, dnd K (enc K l) n = rnd5 K l (13 - n) := by
  intro n
  induction n with
  | zero => intro _; rw [dnd, enc, xor_xor _ _ (shiftL_len _), unshift_shift _ (subL_len _), unsub_sub _ (rnd_len _ _ _)]
  | succ n ih =>
    intro h
    rw [dnd, ih (by omega), show 13 - n = (13 - (n + 1)) + 1 by omega, rnd5, xor_xor _ _ (mix_len _), unmix_mix _ (shiftL_len _), unshift_shift _ (subL_len _), unsub_sub _ (rnd_len _ _ _)]
theorem dec_enc (K l : List B) (hl : l.length = 16) : dec K (enc K l) = l := by
  rw [dec, dnd_enc K l 13 (Nat.le_refl _), Nat.sub_self, rnd5, xor_xor _ _ hl]
theorem rnd_dec (K l : List B) : ∀ n ≤ 13, rnd5 K (dec K l) n = dnd K l (13 - n) := by
  intro n
  induction n with
  | zero => intro _; rw [rnd5, dec, xor_xor _ _ (dnd_len _ _ _)]
  | succ n ih =>
    intro h
    rw [rnd5, ih (by omega), show 13 - n = (13 - (n + 1)) + 1 by omega, dnd, sub_unsub _ (unshiftL_len _), shift_unshift _ (unmix_len _), mix_unmix _ (xorL_len _ _), show 13 - (13 - (n + 1)) = n + 1 by omega, xor_xor _ _ (dnd_len _ _ _)]
theorem enc_dec (K l : List B) (hl : l.length = 16) : enc K (dec K l) = l := by
  rw [enc, rnd_dec K l 13 (Nat.le_refl _), Nat.sub_self, dnd, sub_unsub _ (unshiftL_len _), shift_unshift _ (xorL_len _ _), xor_xor _ _ hl]
theorem enc_inj (K l m : List B) (hl : l.length = 16) (hm : m.length = 16) (h : enc K l = enc K m) : l = m := by
  rw [← dec_enc K l hl, h, dec_enc K m hm]

/-! The rounds' keys. -/
def put4 (l : List B) (i : Nat) (x : B × B × B × B) : List B := (((l.set (4 * i) x.1).set (4 * i + 1) x.2.1).set (4 * i + 2) x.2.2.1).set (4 * i + 3) x.2.2.2
/-- The mark of a column. -/
def mrk (i : Nat) : B := Nat.repeat dbl ((i - 1) / 8) 1#8
def colOf (l : List B) (i : Nat) : B × B × B × B := (l.getD (4 * i) 0#8, l.getD (4 * i + 1) 0#8, l.getD (4 * i + 2) 0#8, l.getD (4 * i + 3) 0#8)
def turnC (i : Nat) (x : B × B × B × B) : B × B × B × B :=
  if i % 8 = 0 then (sb x.2.1 ^^^ mrk i, sb x.2.2.1, sb x.2.2.2, sb x.1) else if i % 4 = 0 then (sb x.1, sb x.2.1, sb x.2.2.1, sb x.2.2.2) else x
def xorC (x y : B × B × B × B) : B × B × B × B := (x.1 ^^^ y.1, x.2.1 ^^^ y.2.1, x.2.2.1 ^^^ y.2.2.1, x.2.2.2 ^^^ y.2.2.2)
def colK (key l : List B) (i : Nat) : B × B × B × B := if i < 8 then colOf key i else xorC (colOf l (i - 8)) (turnC i (colOf l (i - 1)))
def ks (key : List B) : Nat → List B
  | 0 => List.replicate 240 0#8
  | n + 1 => put4 (ks key n) n (colK key (ks key n) n)
theorem put4_len (l : List B) (i : Nat) (x : B × B × B × B) : (put4 l i x).length = l.length := by simp [put4]
theorem ks_len (key : List B) (n : Nat) : (ks key n).length = 240 := by
  induction n with
  | zero => exact List.length_replicate
  | succ n ih => rw [ks, put4_len, ih]
end Go.Proofs.YtamieopjigjfiabDoor

namespace Go.Proofs.YtamieopjigjfiabDoor
set_option maxRecDepth 100000
open Go Go.RowKit Go.Sort
attribute [local go_sem] setCell_drewN alloc_drewN

/-! Words: turned, doubled, picked. -/
set_option maxHeartbeats 1000000 in
theorem a_rotw1 (a b c d : B) : Gives 60 #[.int .u32 (wv (wd a b c d)), .int .i64 8] (.int .u32 (wv (wd b c d a))) := by
  intro w
  have ha : bits .and .u64 8 31 = 8 := by decide +kernel
  have e := wd_left1 a b c d
  have hb := wnd (wd a b c d)
  go_enter Tryd.func60, Tryd.ntmps60
  go_wp2_with (simp only [ha])
  go_ret
  exact ⟨rfl, Below.refl _ _⟩
set_option maxHeartbeats 1000000 in
theorem a_left1 (a b c d : B) : Gives 47 #[.int .u32 (wv (wd a b c d)), .int .i64 1] (.int .u32 (wv (wd b c d a))) := by
  intro w
  have h := a_rotw1 a b c d
  go_enter Tryd.func47, Tryd.ntmps47
  go_wp2_with (fail)
  refine (h.at _).mono ?_
  rintro e w1 ⟨rfl, hb⟩
  go_wp2
  go_ret
  exact ⟨rfl, hb⟩
set_option maxHeartbeats 1000000 in
theorem a_rotw2 (a b c d : B) : Gives 60 #[.int .u32 (wv (wd a b c d)), .int .i64 16] (.int .u32 (wv (wd c d a b))) := by
  intro w
  have ha : bits .and .u64 16 31 = 16 := by decide +kernel
  have e := wd_left2 a b c d
  have hb := wnd (wd a b c d)
  go_enter Tryd.func60, Tryd.ntmps60
  go_wp2_with (simp only [ha])
  go_ret
  exact ⟨rfl, Below.refl _ _⟩
set_option maxHeartbeats 1000000 in
theorem a_left2 (a b c d : B) : Gives 47 #[.int .u32 (wv (wd a b c d)), .int .i64 2] (.int .u32 (wv (wd c d a b))) := by
  intro w
  have h := a_rotw2 a b c d
  go_enter Tryd.func47, Tryd.ntmps47
  go_wp2_with (fail)
  refine (h.at _).mono ?_
  rintro e w1 ⟨rfl, hb⟩
  go_wp2
  go_ret
  exact ⟨rfl, hb⟩
set_option maxHeartbeats 1000000 in
theorem a_rotw3 (a b c d : B) : Gives 60 #[.int .u32 (wv (wd a b c d)), .int .i64 24] (.int .u32 (wv (wd d a b c))) := by
  intro w
  have ha : bits .and .u64 24 31 = 24 := by decide +kernel
  have e := wd_left3 a b c d
  have hb := wnd (wd a b c d)
  go_enter Tryd.func60, Tryd.ntmps60
  go_wp2_with (simp only [ha])
  go_ret
  exact ⟨rfl, Below.refl _ _⟩
set_option maxHeartbeats 1000000 in
theorem a_left3 (a b c d : B) : Gives 47 #[.int .u32 (wv (wd a b c d)), .int .i64 3] (.int .u32 (wv (wd d a b c))) := by
  intro w
  have h := a_rotw3 a b c d
  go_enter Tryd.func47, Tryd.ntmps47
  go_wp2_with (fail)
  refine (h.at _).mono ?_
  rintro e w1 ⟨rfl, hb⟩
  go_wp2
  go_ret
  exact ⟨rfl, hb⟩
set_option maxHeartbeats 1000000 in
theorem a_wtwice (a b c d : B) : Gives 52 #[.int .u32 (wv (wd a b c d))] (.int .u32 (wv (wd (dbl a) (dbl b) (dbl c) (dbl d)))) := by
  intro w
  have e1 := wd_and7f a b c d
  have e2 := wd_shl1 a b c d
  have e3 := wd_shr7 a b c d
  have e4 := wd_mul a b c d
  have e5 := wd_dbl a b c d
  have hb := wnd (wd a b c d)
  go_enter Tryd.func52, Tryd.ntmps52
  go_wp2
  go_ret
  rw [← e5, ← e2, ← e4]
  exact ⟨rfl, Below.refl _ _⟩

end Go.Proofs.YtamieopjigjfiabDoor

namespace Go.Proofs.YtamieopjigjfiabDoor
set_option maxRecDepth 100000
open Go Go.RowKit Go.Sort
attribute [local go_sem] setCell_drewN alloc_drewN

theorem ix_b (a b c d : B) : bits .and .u32 (wv (wd a b c d) / 65536) 255 = bv b := by rw [wd_shr2, wd_mask3, ← wd_lo]
theorem ix_c (a b c d : B) : bits .and .u32 (wv (wd a b c d) / 256) 255 = bv c := by rw [wd_shr3, wd_mask3, ← wd_lo]
theorem ix_d (a b c d : B) : bits .and .u32 (wv (wd a b c d)) 255 = bv d := by rw [wd_mask3, ← wd_lo]
theorem or_ab (a b : B) : bits .or .u32 (bv a * 16777216) (bv b * 65536) = wv (wd a b 0#8 0#8) := by
  rw [wd_hi, wd_b, or32, wd_or]; simp
theorem or_abc (a b c : B) : bits .or .u32 (wv (wd a b 0#8 0#8)) (bv c * 256) = wv (wd a b c 0#8) := by
  rw [wd_c, or32, wd_or]; simp
theorem or_abcd (a b c d : B) : bits .or .u32 (wv (wd a b c 0#8)) (bv d) = wv (wd a b c d) := by
  rw [wd_lo, or32, wd_or]; simp
set_option maxRecDepth 100000 in
set_option maxHeartbeats 2000000 in
theorem a_through (t : B → B) (g off : Nat) (a b c d : B) (W : World) (ht : ∀ x : B, W.cell? ⟨g, off + x.toNat, none⟩ = some (.int .u8 (bv (t x)))) : Calls Tryd.prog 48 #[.int .u32 (wv (wd a b c d)), .pointer (some ⟨g, off, none⟩)] W fun e w' => e = .returned (.int .u32 (wv (wd (t a) (t b) (t c) (t d)))) ∧ Below W.heap.size W w' := by
  have hw : Below W.heap.size W W := Below.refl _ _
  have c0 := ht a
  have c1 := ht b
  have c2 := ht c
  have c3 := ht d
  clear ht
  have i0 := wd_a_of a b c d
  have i1 := ix_b a b c d
  have i2 := ix_c a b c d
  have i3 := ix_d a b c d
  have o1 := or_ab (t a) (t b)
  have o2 := or_abc (t a) (t b) (t c)
  have o3 := or_abcd (t a) (t b) (t c) (t d)
  have n0 := bv_nat a
  have n1 := bv_nat b
  have n2 := bv_nat c
  have n3 := bv_nat d
  have b0 := bnd a
  have b1 := bnd b
  have b2 := bnd c
  have b3 := bnd d
  have t0 := bnd (t a)
  have t1 := bnd (t b)
  have t2 := bnd (t c)
  have t3 := bnd (t d)
  have bw := wnd (wd a b c d)
  generalize t a = ta at *
  generalize t b = tb at *
  generalize t c = tc at *
  generalize t d = td at *
  go_enter Tryd.func48, Tryd.ntmps48
  go_wp2_with (fail)
  have k0 : ∀ p : Regrown, (grow (redrawn W p.d) p.os).cell? ⟨g, off + a.toNat, none⟩ = some (.int .u8 (bv ta)) := fun p => cell_regrown (c0) p.d p.os
  have k1 : ∀ p : Regrown, (grow (redrawn W p.d) p.os).cell? ⟨g, off + b.toNat, none⟩ = some (.int .u8 (bv tb)) := fun p => cell_regrown (c1) p.d p.os
  have k2 : ∀ p : Regrown, (grow (redrawn W p.d) p.os).cell? ⟨g, off + c.toNat, none⟩ = some (.int .u8 (bv tc)) := fun p => cell_regrown (c2) p.d p.os
  have k3 : ∀ p : Regrown, (grow (redrawn W p.d) p.os).cell? ⟨g, off + d.toNat, none⟩ = some (.int .u8 (bv td)) := fun p => cell_regrown (c3) p.d p.os
  refine wp_region_quiet_below (by kernel_rfl) (by kernel_rfl) ?_
  go_big_quiet_step (fail)
  go_big_quiet_step (fail)
  go_big_quiet_step (fail)
  go_big_quiet_step (fail)
  go_big_quiet_step (fail)
  go_big_quiet_step (fail)
  go_big_quiet_step (fail)
  go_big_quiet_step (fail)
  go_big_quiet_step (fail)
  go_big_quiet_step (fail)
  go_big_quiet_step (fail)
  go_big_quiet_step (fail)
  go_big_quiet_step (fail)
  go_big_quiet_step (fail)
  go_big_quiet_step (fail)
  go_big_quiet_step (fail)
  go_big_quiet_step (fail)
  go_big_quiet_step (fail)
  go_big_quiet_step (fail)
  go_big_quiet_step (fail)
  go_big_quiet_step (fail)
  go_big_quiet_step (fail)
  go_big_quiet_step (fail)
  go_big_quiet_step (fail)
  go_big_quiet_step (fail)
  go_big_quiet_step (fail)
  go_big_quiet_step (fail)
  go_big_quiet_step (fail)
  go_big_quiet_step (fail)
  go_big_quiet_step (fail)
  go_big_quiet_step (fail)
  go_big_quiet_step (fail)
  go_big_quiet_step (fail)
  go_big_quiet_step (fail)
  go_big_quiet_step (fail)
  go_big_quiet_step (fail)
  go_big_quiet_step (fail)
  refine wpQuiet_nil ?_
  rintro _ ⟨p, rfl⟩
  have hb := below_regrown W p.d p.os
  generalize grow (redrawn W p.d) p.os = w1 at *
  clear k0 k1 k2 k3
  replace hw := Below.after hw hb
  clear hb

  go_wp2
  go_ret
  exact ⟨rfl, hw⟩

theorem pick2 (a b : B) : bits .or .u32 (wv (wd a 0#8 0#8 0#8)) (wv (wd 0#8 b 0#8 0#8)) = wv (wd a b 0#8 0#8) := by
  rw [or32, wd_or]; simp
theorem pick3 (a b c : B) : bits .or .u32 (wv (wd a b 0#8 0#8)) (wv (wd 0#8 0#8 c 0#8)) = wv (wd a b c 0#8) := by
  rw [or32, wd_or]; simp
theorem pick4 (a b c d : B) : bits .or .u32 (wv (wd a b c 0#8)) (wv (wd 0#8 0#8 0#8 d)) = wv (wd a b c d) := by
  rw [or32, wd_or]; simp
set_option maxHeartbeats 2000000 in
theorem a_picked (a0 b0 c0 d0 a1 b1 c1 d1 a2 b2 c2 d2 a3 b3 c3 d3 : B) : Gives 50 #[.agg #[.int .u32 (wv (wd a0 b0 c0 d0)), .int .u32 (wv (wd a1 b1 c1 d1)), .int .u32 (wv (wd a2 b2 c2 d2)), .int .u32 (wv (wd a3 b3 c3 d3))]] (.int .u32 (wv (wd a0 b1 c2 d3))) := by
  intro w
  have e0 := wd_mask0 a0 b0 c0 d0
  have e1 := wd_mask1 a1 b1 c1 d1
  have e2 := wd_mask2 a2 b2 c2 d2
  have e3 := wd_mask3 a3 b3 c3 d3
  have p2 := pick2 a0 b1
  have p3 := pick3 a0 b1 c2
  have p4 := pick4 a0 b1 c2 d3
  go_enter Tryd.func50, Tryd.ntmps50
  go_wp2
  go_ret
  exact ⟨rfl, (Below.refl _ _).alloc (Nat.le_refl _) _⟩

set_option maxHeartbeats 4000000 in
theorem a_turned (x0 x1 x2 x3 : Int) (k : Nat) (hk : k < 4) : Gives 51 #[.agg #[.int .u32 x0, .int .u32 x1, .int .u32 x2, .int .u32 x3], .int .i64 (k : Int)] (.agg #[.int .u32 ([x0, x1, x2, x3].getD ((0 + k) % 4) 0), .int .u32 ([x0, x1, x2, x3].getD ((1 + k) % 4) 0), .int .u32 ([x0, x1, x2, x3].getD ((2 + k) % 4) 0), .int .u32 ([x0, x1, x2, x3].getD ((3 + k) % 4) 0)]) := by
  intro w
  rcases (show k = 0 ∨ k = 1 ∨ k = 2 ∨ k = 3 by omega) with rfl | rfl | rfl | rfl
  · go_enter Tryd.func51, Tryd.ntmps51
    go_wp2
    refine wp_loop_rounds 5 ?_
    rw [rounds_succ]; go_wp2
    rw [rounds_succ]; go_wp2
    rw [rounds_succ]; go_wp2
    rw [rounds_succ]; go_wp2
    rw [rounds_succ]; go_wp2
    exact bodyPost_ret (v := .agg #[.int .u32 x0, .int .u32 x1, .int .u32 x2, .int .u32 x3]) (results_cell_row Tryd.results51 _ _ (w.heap.size + 1) _ _ _ _ rfl (hp3_1 w (.cells #[.int .u32 x0, .int .u32 x1, .int .u32 x2, .int .u32 x3] 71) (.cells #[.int .u32 x0, .int .u32 x1, .int .u32 x2, .int .u32 x3] 71) (.cells #[.int .u32 x0, .int .u32 x1, .int .u32 x2, .int .u32 x3] 71)) Tryd.underlying71 rfl (by kernel_rfl)) rfl ⟨rfl, (((Below.refl _ _).alloc (Nat.le_refl _) _).alloc (by simp) _).alloc (by simp; omega) _⟩
  · go_enter Tryd.func51, Tryd.ntmps51
    go_wp2
    refine wp_loop_rounds 5 ?_
    rw [rounds_succ]; go_wp2
    rw [rounds_succ]; go_wp2
    rw [rounds_succ]; go_wp2
    rw [rounds_succ]; go_wp2
    rw [rounds_succ]; go_wp2
    exact bodyPost_ret (v := .agg #[.int .u32 x1, .int .u32 x2, .int .u32 x3, .int .u32 x0]) (results_cell_row Tryd.results51 _ _ (w.heap.size + 1) _ _ _ _ rfl (hp3_1 w (.cells #[.int .u32 x0, .int .u32 x1, .int .u32 x2, .int .u32 x3] 71) (.cells #[.int .u32 x1, .int .u32 x2, .int .u32 x3, .int .u32 x0] 71) (.cells #[.int .u32 x1, .int .u32 x2, .int .u32 x3, .int .u32 x0] 71)) Tryd.underlying71 rfl (by kernel_rfl)) rfl ⟨rfl, (((Below.refl _ _).alloc (Nat.le_refl _) _).alloc (by simp) _).alloc (by simp; omega) _⟩
  · go_enter Tryd.func51, Tryd.ntmps51
    go_wp2
    refine wp_loop_rounds 5 ?_
    rw [rounds_succ]; go_wp2
    rw [rounds_succ]; go_wp2
    rw [rounds_succ]; go_wp2
    rw [rounds_succ]; go_wp2
    rw [rounds_succ]; go_wp2
    exact bodyPost_ret (v := .agg #[.int .u32 x2, .int .u32 x3, .int .u32 x0, .int .u32 x1]) (results_cell_row Tryd.results51 _ _ (w.heap.size + 1) _ _ _ _ rfl (hp3_1 w (.cells #[.int .u32 x0, .int .u32 x1, .int .u32 x2, .int .u32 x3] 71) (.cells #[.int .u32 x2, .int .u32 x3, .int .u32 x0, .int .u32 x1] 71) (.cells #[.int .u32 x2, .int .u32 x3, .int .u32 x0, .int .u32 x1] 71)) Tryd.underlying71 rfl (by kernel_rfl)) rfl ⟨rfl, (((Below.refl _ _).alloc (Nat.le_refl _) _).alloc (by simp) _).alloc (by simp; omega) _⟩
  · go_enter Tryd.func51, Tryd.ntmps51
    go_wp2
    refine wp_loop_rounds 5 ?_
    rw [rounds_succ]; go_wp2
    rw [rounds_succ]; go_wp2
    rw [rounds_succ]; go_wp2
    rw [rounds_succ]; go_wp2
    rw [rounds_succ]; go_wp2
    exact bodyPost_ret (v := .agg #[.int .u32 x3, .int .u32 x0, .int .u32 x1, .int .u32 x2]) (results_cell_row Tryd.results51 _ _ (w.heap.size + 1) _ _ _ _ rfl (hp3_1 w (.cells #[.int .u32 x0, .int .u32 x1, .int .u32 x2, .int .u32 x3] 71) (.cells #[.int .u32 x3, .int .u32 x0, .int .u32 x1, .int .u32 x2] 71) (.cells #[.int .u32 x3, .int .u32 x0, .int .u32 x1, .int .u32 x2] 71)) Tryd.underlying71 rfl (by kernel_rfl)) rfl ⟨rfl, (((Below.refl _ _).alloc (Nat.le_refl _) _).alloc (by simp) _).alloc (by simp; omega) _⟩

end Go.Proofs.YtamieopjigjfiabDoor


namespace Go.Proofs.YtamieopjigjfiabDoor
set_option maxRecDepth 100000
open Go Go.RowKit Go.Sort
attribute [local go_sem] setCell_drewN alloc_drewN


/-! Bytes shifted into words. -/
abbrev Wd := BitVec 32
def wo (l : List B) (j : Nat) : Wd := wd (l.getD (4 * j) 0#8) (l.getD (4 * j + 1) 0#8) (l.getD (4 * j + 2) 0#8) (l.getD (4 * j + 3) 0#8)
def sh (l : List B) (j : Nat) : Nat → Wd
  | 0 => wd 0#8 0#8 0#8 0#8
  | 1 => wd 0#8 0#8 0#8 (l.getD (4 * j) 0#8)
  | 2 => wd 0#8 0#8 (l.getD (4 * j) 0#8) (l.getD (4 * j + 1) 0#8)
  | 3 => wd 0#8 (l.getD (4 * j) 0#8) (l.getD (4 * j + 1) 0#8) (l.getD (4 * j + 2) 0#8)
  | _ => wo l j
theorem or_lo (a b c d : B) : bits .or .u32 (wv (wd a b c 0#8)) (bv d) = wv (wd a b c d) := or_abcd a b c d
theorem sh_step (l : List B) (j m : Nat) (hm : m < 4) : bits .or .u32 (wv (sh l j m) * 256 % 4294967296) (bv (l.getD (4 * j + m) 0#8)) = wv (sh l j (m + 1)) := by
  rcases (show m = 0 ∨ m = 1 ∨ m = 2 ∨ m = 3 by omega) with rfl | rfl | rfl | rfl <;> simp only [sh, wo, wd_shl, or_lo, Nat.add_zero]
def wl (ws : List Wd) : List Int := ws.map wv
theorem wl_len (ws : List Wd) : (wl ws).length = ws.length := by simp [wl]
theorem wl_get (l : List Wd) (j : Nat) : (wl l).getD j 0 = wv (l.getD j 0#32) := by
  simp only [wl, List.getD_eq_getElem?_getD, List.getElem?_map]
  cases l[j]? <;> rfl
theorem wl_set (l : List Wd) (j : Nat) (z : Wd) : (wl l).set j (wv z) = wl (l.set j z) := by
  simp [wl, List.map_set]
theorem wrow_cell {W : World} {g : Nat} {l : List Wd} {t : TypeId} (hg : W.heap[g]? = some (.cells (irow .u32 (wl l)) t (0, 0))) {j : Nat} (hj : j < l.length) : W.cell? ⟨g, j, none⟩ = some (.int .u32 (wv (l.getD j 0#32))) := by
  rw [← wl_get]; exact irow_cell hg (by rw [wl_len]; exact hj)
theorem wrow_set {W : World} {g : Nat} {l : List Wd} {t : TypeId} (hg : W.heap[g]? = some (.cells (irow .u32 (wl l)) t (0, 0))) (j : Nat) (z : Wd) : (W.setCell ⟨g, j, none⟩ (.int .u32 (wv z))).heap[g]? = some (.cells (irow .u32 (wl (l.set j z))) t (0, 0)) := by
  rw [← wl_set]; exact irow_set hg j (wv z)
def shw (l : List B) (n k : Nat) : List Wd := (List.range n).map fun j => sh l j (min 4 (k - 4 * j))
theorem shw_len (l : List B) (n k : Nat) : (shw l n k).length = n := by simp [shw]
theorem shw_get (l : List B) (n k j : Nat) (h : j < n) : (shw l n k).getD j 0#32 = sh l j (min 4 (k - 4 * j)) := by
  simp [shw, List.getD_eq_getElem?_getD, h]
theorem shw_set (l : List B) (n k : Nat) (h : k < 4 * n) : (shw l n k).set (k / 4) (sh l (k / 4) (k % 4 + 1)) = shw l n (k + 1) := by
  apply List.ext_getElem?
  intro j
  rw [List.getElem?_set]
  by_cases e : k / 4 = j
  · rw [if_pos e, if_pos (by rw [shw_len]; omega)]
    have hj : j < n := by omega
    simp only [shw, List.getElem?_map, List.getElem?_range hj, Option.map_some]
    rw [show min 4 (k + 1 - 4 * j) = k % 4 + 1 by omega, e]
  · rw [if_neg e]
    simp only [shw, List.getElem?_map]
    by_cases hj : j < n
    · simp only [List.getElem?_range hj, Option.map_some]
      rw [show min 4 (k + 1 - 4 * j) = min 4 (k - 4 * j) by omega]
    · rw [List.getElem?_eq_none (by simp; omega)]; rfl
def wos (l : List B) (n : Nat) : List Wd := (List.range n).map (wo l)
theorem wos_len (l : List B) (n : Nat) : (wos l n).length = n := by simp [wos]
theorem wos_get (l : List B) (n j : Nat) (h : j < n) : (wos l n).getD j 0#32 = wo l j := by
  simp [wos, List.getD_eq_getElem?_getD, h]
theorem shw_zero (l : List B) (n : Nat) : shw l n 0 = List.replicate n 0#32 := by
  apply List.ext_getElem (by simp [shw])
  intro i h1 h2
  simp [shw, sh, wd]
theorem shw_full (l : List B) (n k : Nat) (h : 4 * n ≤ k) : shw l n k = wos l n := by
  apply List.map_congr_left
  intro j hj
  rw [List.mem_range] at hj
  rw [show min 4 (k - 4 * j) = 4 by omega]; rfl
theorem wl_zr (n : Nat) : wl (List.replicate n 0#32) = zr n := by
  simp only [wl, zr, List.map_replicate]; rfl
theorem info_wl {t : TypeId} {n : Nat} (ht : (Tryd.prog.info? t).map (·.size) = some n) (l : List Wd) (h : l.length = n) : (Tryd.prog.info? t).map (·.size) = some (irow .u32 (wl l)).size := by
  rw [irow_size, wl_len, h]; exact ht
theorem info_bl {t : TypeId} {n : Nat} (ht : (Tryd.prog.info? t).map (·.size) = some n) (l : List B) (h : l.length = n) : (Tryd.prog.info? t).map (·.size) = some (irow .u8 (bl l)).size := by
  rw [irow_size, bl_len, h]; exact ht
theorem infoB : (Tryd.prog.info? 50).map (·.size) = some 16 := by kernel_rfl
theorem infoC : (Tryd.prog.info? 72).map (·.size) = some 4 := by kernel_rfl
theorem zBl (W : World) : (Instr.alloc 50 true (.tuple #[])).run Tryd.prog W = .ok (.pointer (some ⟨W.heap.size, 0, none⟩)) (W.alloc (.cells (irow .u8 (zr 16)) 50)) := by kernel_rfl
theorem zCo (W : World) : (Instr.alloc 72 true (.tuple #[])).run Tryd.prog W = .ok (.pointer (some ⟨W.heap.size, 0, none⟩)) (W.alloc (.cells (irow .u32 (zr 4)) 72)) := by kernel_rfl
theorem bBl (cs : Array Value) (W : World) : (Instr.box 50 (.agg cs)).run Tryd.prog W = .ok (.pointer (some ⟨W.heap.size, 0, none⟩)) (W.alloc (.cells cs 50)) := by kernel_rfl
theorem bCo (cs : Array Value) (W : World) : (Instr.box 72 (.agg cs)).run Tryd.prog W = .ok (.pointer (some ⟨W.heap.size, 0, none⟩)) (W.alloc (.cells cs 72)) := by kernel_rfl
theorem indexB (l : List B) (hl : l.length = 16) (j : Nat) (hj : j < 16) (W : World) : (Instr.index 50 (.agg (irow .u8 (bl l))) (.int .i64 (j : Int))).run Tryd.prog W = .ok (.int .u8 (bv (l.getD j 0#8))) W := by
  obtain ⟨i0, hi⟩ : ∃ i, Tryd.prog.info? 5 = some i := ⟨_, rfl⟩
  rw [← bl_get]
  exact index_row Tryd.underlying50 Tryd.underlying5 hi (fun W => by kernel_rfl) (bl l) (by rw [bl_len, hl]) j hj W

set_option maxRecDepth 100000 in
set_option maxHeartbeats 4000000 in
theorem a_cut (l : List B) (hl : l.length = 16) : Gives 37 #[.agg (irow .u8 (bl (l)))] (.agg (irow .u32 (wl (wos l 4)))) := by
  intro w
  have hz : ∀ W : World, (Instr.alloc 72 true (.tuple #[])).run Tryd.prog W = .ok (.pointer (some ⟨W.heap.size, 0, none⟩)) (W.alloc (.cells (irow .u32 (wl (shw l 4 0))) 72)) := by rw [shw_zero, wl_zr]; exact zCo
  have R0 := hp3_0 w (.cells (irow .u8 (bl (l))) 50) (.cells (irow .u32 (wl (shw l 4 0))) 72) (.cells (irow .u32 (wl (shw l 4 0))) 72)
  have R1 := hp3_1 w (.cells (irow .u8 (bl (l))) 50) (.cells (irow .u32 (wl (shw l 4 0))) 72) (.cells (irow .u32 (wl (shw l 4 0))) 72)
  have R2 := hp3_2 w (.cells (irow .u8 (bl (l))) 50) (.cells (irow .u32 (wl (shw l 4 0))) 72) (.cells (irow .u32 (wl (shw l 4 0))) 72)
  have HW : Below w.heap.size w (((w.alloc (.cells (irow .u8 (bl (l))) 50)).alloc (.cells (irow .u32 (wl (shw l 4 0))) 72)).alloc (.cells (irow .u32 (wl (shw l 4 0))) 72)) := ((((Below.refl _ _).alloc (Nat.le_refl _) _).alloc (by simp) _).alloc (by simp; omega) _)

  have hi0 := info_bl infoB l hl
  have hi1 := info_wl infoC (wos l 4) (wos_len _ _)
  go_enter Tryd.func37, Tryd.ntmps37
  go_wp2_with (first | (refine wpList_box rfl 50 _ rfl _ rfl (bBl _) ?_) | (refine wpList_alloc rfl 72 rfl (irow .u32 (wl (shw l 4 0))) hz ?_) | (refine wpList_load_want rfl 50 _ rfl (w.heap.size) rfl 50 (irow .u8 (bl (l))) (0, 0) _ R0 Tryd.underlying50 rfl hi0 ?_) | fail)
  try simp only [size_alloc1, Act.put, List.setIfInBounds_toArray, List.set_cons_succ, List.set_cons_zero]
  generalize (((w.alloc (.cells (irow .u8 (bl (l))) 50)).alloc (.cells (irow .u32 (wl (shw l 4 0))) 72)).alloc (.cells (irow .u32 (wl (shw l 4 0))) 72)) = w0 at *
  go_loopw [7] (fun i wr => ∃ k : Nat, k ≤ 16 ∧ i = .int .i64 k ∧ wr.heap[w.heap.size]? = some (.cells (irow .u8 (bl (l))) 50 (0, 0)) ∧ wr.heap[w.heap.size + 1]? = some (.cells (irow .u32 (wl (shw l 4 0))) 72 (0, 0)) ∧ wr.heap[w.heap.size + 1 + 1]? = some (.cells (irow .u32 (wl (shw l 4 k))) 72 (0, 0)) ∧ Below w.heap.size w wr) (fun i _ => 16 - (intOf i).toNat)
  case atStart => exact ⟨0, by omega, rfl, R0, R1, R2, HW⟩
  case round =>
    clear R0 R1 R2 HW hz
    obtain ⟨k, hk, rfl, r0, r1, r2, hw⟩ := hrel
    by_cases hlt : k < 16
    · have hd : decide ((k : Int) < 16) = true := by simp; omega
      have hix := indexB l hl k hlt wr
      have hq : (k : Int).tdiv 4 = ((k / 4 : Nat) : Int) := by rw [Int.tdiv_eq_ediv_of_nonneg (by omega)]; rfl
      have c0 := wrow_cell r2 (j := k / 4) (by rw [shw_len]; omega)
      rw [shw_get l 4 k (k / 4) (by omega), show min 4 (k - 4 * (k / 4)) = k % 4 by omega] at c0
      have hs := sh_step l (k / 4) (k % 4) (by omega)
      rw [show 4 * (k / 4) + k % 4 = k by omega] at hs
      have hset := hide (shw_set l 4 k (by omega))
      have hf := row_frozen r2 (k / 4)
      have b1 := bnd (l.getD k 0#8)
      have b2 := wnd (sh l (k / 4) (k % 4))
      generalize sh l (k / 4) (k % 4) = S0 at *
      generalize sh l (k / 4) (k % 4 + 1) = S1 at *
      generalize l.getD k 0#8 = x at *
      go_wp2
      refine ⟨⟨k + 1, by omega, by go_num, heap_other r0 (by omega), heap_other r1 (by omega), by rw [← hset.out]; exact wrow_set r2 (k / 4) S1, hw.setCell (show w.heap.size ≤ w.heap.size + 1 + 1 by omega) _⟩, by simp [intOf]; omega⟩
    · obtain rfl : k = 16 := by omega
      have hd : decide ((16 : Int) < 16) = false := by decide
      rw [shw_full l 4 16 (by omega)] at r2
      have hfi : (irow .u32 (wl (shw l 4 0))).size = (irow .u32 (wl (wos l 4))).size := by rw [irow_size, irow_size, wl_len, wl_len, shw_len, wos_len]
      clear hk hlt
      go_wp2_with (first | (refine wpList_load_want rfl 72 _ rfl (w.heap.size + 1 + 1) rfl 72 (irow .u32 (wl (wos l 4))) (0, 0) _ r2 Tryd.underlying72 rfl hi1 ?_) | (refine wpList_store_row rfl 72 _ _ rfl (w.heap.size + 1) (irow .u32 (wl (wos l 4))) rfl rfl 72 _ r1 hi1 hfi (irow_one _ _) ?_) | fail)
      replace r1 := setRow_heap wr (w.heap.size + 1) _ (irow .u32 (wl (wos l 4))) _ _ r1
      replace hw := below_setRow hw (show w.heap.size ≤ w.heap.size + 1 by omega) (irow .u32 (wl (wos l 4)))
      generalize wr.setRow (w.heap.size + 1) (irow .u32 (wl (wos l 4))) = w9 at *
      exact bodyPost_ret (v := .agg (irow .u32 (wl (wos l 4)))) (results_cell_row Tryd.results37 _ _ (w.heap.size + 1) _ _ _ _ rfl r1 Tryd.underlying72 rfl hi1) rfl ⟨rfl, hw⟩

/-- A list's byte, by a name that no rule opens. -/
def gb (l : List B) (i : Nat) : B := l.getD i 0#8
theorem pt_self (l : List B) (hl : l.length = 16) : pt (gb l) 16 16 = l := ext16 (pt_len _ _ _) hl fun _ hi => pt_get _ 16 16 hi hi
theorem byte_of (l : List B) (q r : Nat) (hr : r < 4) : wv (wo l q) / 2 ^ (24 - 8 * r) % 256 = bv (l.getD (4 * q + r) 0#8) := by
  rcases (show r = 0 ∨ r = 1 ∨ r = 2 ∨ r = 3 by omega) with rfl | rfl | rfl | rfl
  · have := wd_a_of (l.getD (4 * q) 0#8) (l.getD (4 * q + 1) 0#8) (l.getD (4 * q + 2) 0#8) (l.getD (4 * q + 3) 0#8)
    have b := bnd (l.getD (4 * q) 0#8)
    show wv (wd _ _ _ _) / 16777216 % 256 = _
    rw [this]; exact Int.emod_eq_of_lt b.1 b.2
  · exact wd_b_of _ _ _ _
  · exact wd_c_of _ _ _ _
  · have := wd_d_of (l.getD (4 * q) 0#8) (l.getD (4 * q + 1) 0#8) (l.getD (4 * q + 2) 0#8) (l.getD (4 * q + 3) 0#8)
    show wv (wd _ _ _ _) / 1 % 256 = _
    rw [Int.ediv_one]; exact this
set_option maxRecDepth 100000 in
set_option maxHeartbeats 4000000 in
theorem a_joined (l : List B) (hl : l.length = 16) : Gives 38 #[.agg (irow .u32 (wl (wos l 4)))] (.agg (irow .u8 (bl (l)))) := by
  intro w
  have hz : ∀ W : World, (Instr.alloc 50 true (.tuple #[])).run Tryd.prog W = .ok (.pointer (some ⟨W.heap.size, 0, none⟩)) (W.alloc (.cells (irow .u8 (bl (pt (gb l) 16 0))) 50)) := by rw [← zr_pt]; exact zBl
  have R0 := hp3_0 w (.cells (irow .u32 (wl (wos l 4))) 72) (.cells (irow .u8 (bl (pt (gb l) 16 0))) 50) (.cells (irow .u8 (bl (pt (gb l) 16 0))) 50)
  have R1 := hp3_1 w (.cells (irow .u32 (wl (wos l 4))) 72) (.cells (irow .u8 (bl (pt (gb l) 16 0))) 50) (.cells (irow .u8 (bl (pt (gb l) 16 0))) 50)
  have R2 := hp3_2 w (.cells (irow .u32 (wl (wos l 4))) 72) (.cells (irow .u8 (bl (pt (gb l) 16 0))) 50) (.cells (irow .u8 (bl (pt (gb l) 16 0))) 50)
  have HW : Below w.heap.size w (((w.alloc (.cells (irow .u32 (wl (wos l 4))) 72)).alloc (.cells (irow .u8 (bl (pt (gb l) 16 0))) 50)).alloc (.cells (irow .u8 (bl (pt (gb l) 16 0))) 50)) := ((((Below.refl _ _).alloc (Nat.le_refl _) _).alloc (by simp) _).alloc (by simp; omega) _)

  have hi0 := info_bl infoB l hl
  go_enter Tryd.func38, Tryd.ntmps38
  go_wp2_with (first | (refine wpList_box rfl 72 _ rfl _ rfl (bCo _) ?_) | (refine wpList_alloc rfl 50 rfl (irow .u8 (bl (pt (gb l) 16 0))) hz ?_) | fail)
  try simp only [size_alloc1, Act.put, List.setIfInBounds_toArray, List.set_cons_succ, List.set_cons_zero]
  generalize (((w.alloc (.cells (irow .u32 (wl (wos l 4))) 72)).alloc (.cells (irow .u8 (bl (pt (gb l) 16 0))) 50)).alloc (.cells (irow .u8 (bl (pt (gb l) 16 0))) 50)) = w0 at *
  go_loopw [5] (fun i wr => ∃ k : Nat, k ≤ 16 ∧ i = .int .i64 k ∧ wr.heap[w.heap.size]? = some (.cells (irow .u32 (wl (wos l 4))) 72 (0, 0)) ∧ wr.heap[w.heap.size + 1]? = some (.cells (irow .u8 (bl (pt (gb l) 16 0))) 50 (0, 0)) ∧ wr.heap[w.heap.size + 1 + 1]? = some (.cells (irow .u8 (bl (pt (gb l) 16 k))) 50 (0, 0)) ∧ Below w.heap.size w wr) (fun i _ => 16 - (intOf i).toNat)
  case atStart => exact ⟨0, by omega, rfl, R0, R1, R2, HW⟩
  case round =>
    clear R0 R1 R2 HW hz
    obtain ⟨k, hk, rfl, r0, r1, r2, hw⟩ := hrel
    by_cases hlt : k < 16
    · have hd : decide ((k : Int) < 16) = true := by simp; omega
      have hq : (k : Int).tdiv 4 = ((k / 4 : Nat) : Int) := by rw [Int.tdiv_eq_ediv_of_nonneg (by omega)]; rfl
      have c0 := wrow_cell r0 (j := k / 4) (by rw [wos_len]; omega)
      rw [wos_get l 4 (k / 4) (by omega)] at c0
      have hby := byte_of l (k / 4) (k % 4) (by omega)
      rw [show 4 * (k / 4) + k % 4 = k by omega] at hby
      have hset := hide (pt_set (gb l) 16 k hlt)
      rw [show l.getD k 0#8 = gb l k from rfl] at hby
      have c1 := brow_cell r2 (j := k) (by rw [pt_len]; exact hlt)
      have hf := row_frozen r2 k
      have b2 := wnd (wo l (k / 4))
      generalize wo l (k / 4) = S0 at *
      generalize gb l k = x at *
      go_wp2
      refine ⟨⟨k + 1, by omega, by go_num, heap_other r0 (by omega), heap_other r1 (by omega), by rw [← hset.out]; exact brow_set r2 k x, hw.setCell (show w.heap.size ≤ w.heap.size + 1 + 1 by omega) _⟩, by simp [intOf]; omega⟩
    · obtain rfl : k = 16 := by omega
      have hd : decide ((16 : Int) < 16) = false := by decide
      rw [pt_self l hl] at r2
      have hfi : (irow .u8 (bl (pt (gb l) 16 0))).size = (irow .u8 (bl (l))).size := by rw [irow_size, irow_size, bl_len, bl_len, pt_len, hl]
      clear hk hlt
      go_wp2_with (first | (refine wpList_load_want rfl 50 _ rfl (w.heap.size + 1 + 1) rfl 50 (irow .u8 (bl (l))) (0, 0) _ r2 Tryd.underlying50 rfl hi0 ?_) | (refine wpList_store_row rfl 50 _ _ rfl (w.heap.size + 1) (irow .u8 (bl (l))) rfl rfl 50 _ r1 hi0 hfi (irow_one _ _) ?_) | fail)
      replace r1 := setRow_heap wr (w.heap.size + 1) _ (irow .u8 (bl (l))) _ _ r1
      replace hw := below_setRow hw (show w.heap.size ≤ w.heap.size + 1 by omega) (irow .u8 (bl (l)))
      generalize wr.setRow (w.heap.size + 1) (irow .u8 (bl (l))) = w9 at *
      exact bodyPost_ret (v := .agg (irow .u8 (bl (l)))) (results_cell_row Tryd.results38 _ _ (w.heap.size + 1) _ _ _ _ rfl r1 Tryd.underlying50 rfl hi0) rfl ⟨rfl, hw⟩

end Go.Proofs.YtamieopjigjfiabDoor


namespace Go.Proofs.YtamieopjigjfiabDoor
set_option maxRecDepth 100000
open Go Go.RowKit Go.Sort

/-! The counter. -/
/-- What is carried into the k-th byte from behind. -/
def cr (l : List B) (n : Nat) : Nat → Nat
  | 0 => n
  | k + 1 => (cr l n k + (gb l (15 - k)).toNat) / 256
def ctb (l : List B) (n i : Nat) : B := BitVec.ofNat 8 (cr l n (15 - i) + (gb l i).toNat)
def ctr (l : List B) (n : Nat) : List B := mk16 (ctb l n)
theorem ctr_len (l : List B) (n : Nat) : (ctr l n).length = 16 := mk16_len _
theorem ctr_get (l : List B) (n : Nat) {i : Nat} (h : i < 16) : gb (ctr l n) i = ctb l n i := mk16_get _ h
/-- The number that the last k bytes are. -/
def low (l : List B) : Nat → Nat
  | 0 => 0
  | k + 1 => low l k + (gb l (15 - k)).toNat * 256 ^ k
theorem low_lt (l : List B) (k : Nat) : low l k < 256 ^ k := by
  induction k with
  | zero => simp [low]
  | succ k ih =>
    rw [low, Nat.pow_succ]
    have h := (gb l (15 - k)).isLt
    have : (gb l (15 - k)).toNat * 256 ^ k ≤ 255 * 256 ^ k := Nat.mul_le_mul_right _ (by omega)
    omega
theorem low_ctr (l : List B) (n k : Nat) (hk : k ≤ 16) : low (ctr l n) k + cr l n k * 256 ^ k = low l k + n := by
  induction k with
  | zero => simp [low, cr]
  | succ k ih =>
    have h := ih (by omega)
    rw [low, low, cr, ctr_get l n (by omega), ctb, show 15 - (15 - k) = k by omega, BitVec.toNat_ofNat, show 256 ^ (k + 1) = 256 ^ k * 256 from Nat.pow_succ _ _]
    generalize hs : cr l n k + (gb l (15 - k)).toNat = s
    have e1 : s % 2 ^ 8 * 256 ^ k + s / 256 * (256 ^ k * 256) = s * 256 ^ k := by
      have := Nat.div_add_mod s 256
      rw [show (2 : Nat) ^ 8 = 256 from rfl, Nat.mul_comm (256 ^ k) 256, ← Nat.mul_assoc, ← Nat.add_mul]
      congr 1; omega
    have e2 : s * 256 ^ k = cr l n k * 256 ^ k + (gb l (15 - k)).toNat * 256 ^ k := by rw [← hs, Nat.add_mul]
    generalize s % 2 ^ 8 * 256 ^ k = A at *
    generalize s / 256 * (256 ^ k * 256) = C at *
    generalize s * 256 ^ k = D at *
    generalize cr l n k * 256 ^ k = E at *
    generalize (gb l (15 - k)).toNat * 256 ^ k = F at *
    omega
theorem lowc_mod (l : List B) (n k : Nat) (hk : k ≤ 16) : low (ctr l n) k = (low l k + n) % 256 ^ k := by
  rw [← low_ctr l n k hk, Nat.add_mul_mod_self_right, Nat.mod_eq_of_lt (low_lt _ _)]
theorem low_ext {a b : List B} (ha : a.length = 16) (hb : b.length = 16) (h : ∀ k ≤ 16, low a k = low b k) : a = b := by
  apply ext16 ha hb
  intro i hi
  have h1 := h (15 - i) (by omega)
  have h2 := h (15 - i + 1) (by omega)
  rw [low, low, h1, show 15 - (15 - i) = i by omega] at h2
  have h3 := Nat.add_left_cancel h2
  have h4 := Nat.eq_of_mul_eq_mul_right (Nat.pow_pos (by decide)) h3
  exact BitVec.eq_of_toNat_eq h4
theorem ctr_ctr (l : List B) (a b : Nat) : ctr (ctr l a) b = ctr l (a + b) := by
  apply low_ext (ctr_len _ _) (ctr_len _ _)
  intro k hk
  rw [lowc_mod _ _ _ hk, lowc_mod _ _ _ hk, lowc_mod _ _ _ hk, Nat.mod_add_mod, Nat.add_assoc]
theorem ctr_zero (l : List B) (hl : l.length = 16) : ctr l 0 = l := by
  apply low_ext (ctr_len _ _) hl
  intro k hk
  rw [lowc_mod _ _ _ hk, Nat.add_zero, Nat.mod_eq_of_lt (low_lt _ _)]

/-! The stream. -/
def sby (K nonce : List B) (i : Nat) : B := gb (enc K (ctr nonce (i / 16))) (i % 16)
def cry (K nonce : List B) (at_ : Nat) (d : List B) : List B := (List.range d.length).map fun i => gb d i ^^^ sby K nonce (at_ + i)
theorem cry_len (K nonce : List B) (at_ : Nat) (d : List B) : (cry K nonce at_ d).length = d.length := by simp [cry]
theorem cry_get (K nonce : List B) (at_ : Nat) (d : List B) (i : Nat) (h : i < d.length) : gb (cry K nonce at_ d) i = gb d i ^^^ sby K nonce (at_ + i) := by
  simp [cry, gb, List.getD_eq_getElem?_getD, h]
theorem ext_gb {a b : List B} (hl : a.length = b.length) (h : ∀ i < a.length, gb a i = gb b i) : a = b := by
  apply List.ext_getElem hl
  intro i h1 h2
  have := h i h1
  rwa [gb, gb, List.getD_eq_getElem?_getD, List.getElem?_eq_getElem h1, List.getD_eq_getElem?_getD, List.getElem?_eq_getElem h2] at this
theorem cry_cry (K nonce : List B) (at_ : Nat) (d : List B) : cry K nonce at_ (cry K nonce at_ d) = d := by
  apply ext_gb (by rw [cry_len, cry_len])
  intro i h
  rw [cry_len, cry_len] at h
  rw [cry_get _ _ _ _ _ (by rw [cry_len]; exact h), cry_get _ _ _ _ _ h, BitVec.xor_assoc, BitVec.xor_self, BitVec.xor_zero]
theorem gb_app_l (a b : List B) (i : Nat) (h : i < a.length) : gb (a ++ b) i = gb a i := by
  rw [gb, gb, List.getD_eq_getElem?_getD, List.getD_eq_getElem?_getD, List.getElem?_append_left h]
theorem gb_app_r (a b : List B) (i : Nat) (h : a.length ≤ i) : gb (a ++ b) i = gb b (i - a.length) := by
  rw [gb, gb, List.getD_eq_getElem?_getD, List.getD_eq_getElem?_getD, List.getElem?_append_right h]
theorem cry_app (K nonce : List B) (at_ : Nat) (a b : List B) : cry K nonce at_ (a ++ b) = cry K nonce at_ a ++ cry K nonce (at_ + a.length) b := by
  apply ext_gb (by rw [cry_len, List.length_append, List.length_append, cry_len, cry_len])
  intro i h
  rw [cry_len] at h
  rw [cry_get _ _ _ _ _ h]
  rw [List.length_append] at h
  by_cases h1 : i < a.length
  · rw [gb_app_l _ _ _ h1, gb_app_l _ _ _ (by rw [cry_len]; exact h1), cry_get _ _ _ _ _ h1]
  · rw [gb_app_r _ _ _ (by omega), gb_app_r _ _ _ (by rw [cry_len]; omega), cry_len, cry_get _ _ _ _ _ (by omega), show at_ + a.length + (i - a.length) = at_ + i by omega]
theorem sby_shift (K nonce : List B) (k i : Nat) : sby K nonce (16 * k + i) = sby K (ctr nonce k) i := by
  rw [sby, sby, ctr_ctr, show (16 * k + i) / 16 = k + i / 16 by omega, show (16 * k + i) % 16 = i % 16 by omega]
theorem cry_shift (K nonce : List B) (k : Nat) (d : List B) : cry K nonce (16 * k) d = cry K (ctr nonce k) 0 d := by
  apply ext_gb (by rw [cry_len, cry_len])
  intro i h
  rw [cry_len] at h
  rw [cry_get _ _ _ _ _ h, cry_get _ _ _ _ _ h, sby_shift, Nat.zero_add]
end Go.Proofs.YtamieopjigjfiabDoor
