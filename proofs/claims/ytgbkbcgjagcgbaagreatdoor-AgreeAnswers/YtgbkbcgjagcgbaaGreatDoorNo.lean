import Derived.Test.YtgbkbcgjagcgbaaGreatDoorProg
import Derived.WalkKit
import Derived.WalkSpells
import Derived.WalkLawsBesides
import Derived.Lib.QuietBelow
import Derived.BigQuiet
import Derived.Test.YtgbkbcgjagcgbaaGreatDoorKa
import Derived.Test.YtgbkbcgjagcgbaaGreatDoorNn
namespace Go.Proofs.YtgbkbcgjagcgbaaGreatDoor
set_option maxRecDepth 100000
open Go Go.RowKit Go.Sort
attribute [local go_sem] setCell_drewN alloc_drewN
set_option maxRecDepth 100000 in
set_option maxHeartbeats 4000000 in
theorem r_expand_no (key : List Int) (n : Int) (w : World) (vi : Value) (hn : n < 0 ∨ 8160 < n) :
   Calls Tryz.prog 37 #[.agg (irow .u8 key), vi, .int .i64 n] w fun e w' => ∃ v, e = .returned v ∧ v = .tuple #[.slice none 0 0, .int .i64 (if n < 0 then 1 else 2)] ∧ Below w.heap.size w w' := by
 have hw : Below w.heap.size w (w.alloc (.cells (irow .u8 key) 23)) := (Below.refl _ _).alloc (Nat.le_refl _) _
 rcases hn with hn | hn
 · have hd1 : decide (n < 0) = true := decide_eq_true hn
   rw [if_pos hn]
   go_enter Tryz.func37, Tryz.ntmps37
   go_wp2_with (first | (refine wpList_box rfl 23 _ rfl _ rfl (bK _) ?_) | fail)
   go_ret2
   exact ⟨_, rfl, rfl, hw⟩
 · have hd1 : decide (n < 0) = false := decide_eq_false (by omega)
   have hd2 : decide ((8160 : Int) < n) = true := decide_eq_true hn
   rw [if_neg (show ¬ n < 0 by omega)]
   go_enter Tryz.func37, Tryz.ntmps37
   go_wp2_with (first | (refine wpList_box rfl 23 _ rfl _ rfl (bK _) ?_) | fail)
   go_ret2
   exact ⟨_, rfl, rfl, hw⟩
def RAns (W : World) (v : Value) (key info : List Int) (n : Int) : Prop := (∃ (m : Nat) (u : Value), n = (m : Int) ∧ m ≤ 8160 ∧ v = .tuple #[u, .int .i64 0] ∧ NB W u (xpd key info m)) ∨ ((n < 0 ∨ 8160 < n) ∧ v = .tuple #[.slice none 0 0, .int .i64 (if n < 0 then 1 else 2)])
theorem r_expand_any (key info : List Int) (n : Int) (w : World) (vi : Value) (hkl : key.length = 32) (hkz : ∀ z ∈ key, 0 ≤ z ∧ z < 256) (hI : BysM w vi info) (hil : info.length ≤ 140737488355200) :
   Calls Tryz.prog 37 #[.agg (irow .u8 key), vi, .int .i64 n] w fun e w' => ∃ v, e = .returned v ∧ RAns w' v key info n ∧ Below w.heap.size w w' := by
 by_cases hn : n < 0 ∨ 8160 < n
 · refine (r_expand_no key n w vi hn).mono ?_
   rintro e_ w' ⟨v, rfl, rfl, hb⟩
   exact ⟨_, rfl, .inr ⟨hn, rfl⟩, hb⟩
 · obtain ⟨m, rfl⟩ := Int.eq_ofNat_of_zero_le (show 0 ≤ n by omega)
   refine (r_expand4 key info m w vi hkl hkz hI hil (by omega)).mono ?_
   rintro e_ w' ⟨v, rfl, r, hb⟩
   exact ⟨_, rfl, .inl ⟨m, v, rfl, by omega, rfl, r⟩, hb⟩
set_option maxRecDepth 100000 in
set_option maxHeartbeats 4000000 in
theorem r_derive4 (salt sec info : List Int) (n : Int) (w : World) (vs vc vi : Value) (hA : BysM w vs salt) (hC : BysM w vc sec) (hcl : sec.length ≤ 140737488355200) (hI : BysM w vi info) (hil : info.length ≤ 140737488355200) :
   Calls Tryz.prog 25 #[vs, vc, vi, .int .i64 n] w fun e w' => ∃ v, e = .returned v ∧ RAns w' v (hm salt sec) info n ∧ Below w.heap.size w w' := by
 have cE := r_extract4 salt sec w vs vc hA hC (by omega)
 have cX := fun (W : World) a => r_expand_any (hm salt sec) info n W vi (hm_len _ _) (hm_bd _ _) a hil
 generalize hm salt sec = K at *
 go_enter Tryz.func25, Tryz.ntmps25
 go_wp2_with (fail)
 refine cE.mono ?_
 rintro e_ w1 ⟨rfl, hw⟩
 clear cE
 go_wp2_with (fail)
 refine (cX w1 (hI.keep hw)).mono ?_
 rintro e_ w2 ⟨v, rfl, hX, hb⟩
 clear cX
 replace hw := Below.after hw hb
 obtain ⟨m, u, rfl, hm, rfl, r⟩ | ⟨hn, rfl⟩ := hX
 · go_wp2
   go_ret2
   exact ⟨_, rfl, .inl ⟨m, u, rfl, hm, rfl, r⟩, hw⟩
 · generalize hq : (if n < 0 then (1 : Int) else 2) = q at *
   go_wp2
   go_ret2
   exact ⟨_, rfl, .inr ⟨hn, by rw [hq]; rfl⟩, hw⟩
end Go.Proofs.YtgbkbcgjagcgbaaGreatDoor
