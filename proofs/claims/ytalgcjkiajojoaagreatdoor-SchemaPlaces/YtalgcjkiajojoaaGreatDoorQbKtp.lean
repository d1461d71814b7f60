import Derived.Test.YtalgcjkiajojoaaGreatDoorQbKtm
import Derived.Test.YtalgcjkiajojoaaGreatDoorQbXdc
import Derived.Test.YtalgcjkiajojoaaGreatDoorQbUi
import Derived.Lib.ValidAsc
import Derived.Lib.Endian
import Derived.Lib.EndianBits
import Derived.Laws.BitsAllLaws
namespace Go.Proofs.YtalgcjkiajojoaaGreatDoor
set_option maxRecDepth 100000
open Go Go.RowKit Go.Sort
/-! What encode writes, decode reads again, within the schema's range. -/
inductive NmT : VT → Prop
 | mk (n : Nat) (d : List B) (ps : List VT) (hn : n < 18446744073709551616) (hd : d.length ≤ 140737488351232) (h : ∀ p ∈ ps, NmT p) : NmT (.mk n d ps)
theorem VtM.nm {W : World} {S : Nat → Prop} {x : VR} {X : VT} (h : VtM W S x X) : NmT X := by
 induction h with
 | mk x bs xs ps hn hdl hbl hd hdc hds hpl hxl hpc hpm hps hP hs ih =>
  refine .mk _ _ _ hn hbl (fun p hp => ?_)
  obtain ⟨i, hi, e⟩ := List.getElem_of_mem hp
  have := ih i hi
  rw [gvt, List.getD_eq_getElem?_getD, List.getElem?_eq_getElem hi] at this
  rw [← e]
  exact this
theorem enm {n m : Nat} (h : n ≤ m) : (en n).length ≤ (en m).length :=
 (en_len n _ (en_pos m)).2 (Nat.lt_of_le_of_lt h ((en_len m _ (en_pos m)).1 (Nat.le_refl _)))
theorem ri_itm8 {p : List B} (hp : p.length < 18446744073709551616) (r : List B) : ri (itm p ++ r) = .ok p (itm p).length := by
 have h := rd0_en hp (p ++ r)
 have e : itm p ++ r = en p.length ++ (p ++ r) := by rw [itm, List.append_assoc]
 rw [e, ri_of h, if_neg (by rw [List.length_append, List.length_append]; omega), List.drop_left, List.take_left, itm_len]
theorem itm_ne8 (p r : List B) : itm p ++ r ≠ [] := by
 intro h
 have h1 := congrArg List.length h
 rw [List.length_append, itm_len, List.length_nil] at h1
 have := en_pos p.length
 omega
theorem spl_jn8 : ∀ (ps : List (List B)) (p c : Nat), c + ps.length ≤ 4096 → (∀ x ∈ ps, x.length < 18446744073709551616) → spl (jn ps).length p c (jn ps) = .ok ps
 | [], p, c, _, _ => rfl
 | x :: l, p, c, hc, hx => by
  rw [List.length_cons] at hc
  have h1 := ri_itm8 (hx x (by simp)) (jn l)
  have h2 := spl_step (p := p) (c := c) (itm_ne8 x (jn l)) (by omega) h1
  rw [List.drop_left] at h2
  rw [jn, h2, spl_jn8 l _ _ (by omega) (fun y hy => hx y (by simp [hy]))]
  rfl
theorem gp_mem8 {ps : List (List B)} {x : List B} (h : x ∈ ps) : ∃ i, i < ps.length ∧ gp ps i = x := by
 obtain ⟨i, hi, e⟩ := List.getElem_of_mem h
 exact ⟨i, hi, by rw [gp, List.getD_eq_getElem?_getD, List.getElem?_eq_getElem hi]; exact e⟩
theorem sp_jn8 {ps : List (List B)} (h1 : ps.length ≤ 4096) (h2 : (jn ps).length ≤ 4194304) (hx : ∀ i, i < ps.length → (gp ps i).length ≤ 140737488351232) : sp (jn ps) = .ok ps := by
 rw [sp, if_neg (by omega), spl_jn8 ps 0 0 (by omega) (fun x h => by obtain ⟨i, hi, rfl⟩ := gp_mem8 h; have := hx i hi; omega)]
theorem wth0 {n l m : Int} (h : wth n l m = 0) : l ≤ n ∧ n ≤ m := by
 unfold wth at h
 split at h
 ·cases h
 ·omega
theorem cpd_small {n : Nat} (h : cpd n ≤ 4194304) : cpd n = n := by
 unfold cpd at h ⊢
 split at h
 ·omega
 ·rename_i q
  rw [if_neg q]
theorem cpd_down (n : Nat) : cpd n ≤ n := by unfold cpd; split <;> omega
theorem frm_down (n : Nat) : frm n ≤ n + (en n).length := cpd_down _
theorem frm_small {n : Nat} (h : frm n ≤ 4194304) : frm n = n + (en n).length := cpd_small h
theorem pck_none {deep no : Int} {b : Bool} {n dl pl : Nat} {E : Int} (h : pck deep no b n dl pl E = none) : pl = 0 ∧ (b = true → n = 0) ∧ (b = false → dl = 0) ∧ E = 0 := by
 unfold pck at h
 cases hb : pbad b n dl pl with
 | true => rw [hb] at h; cases h
 | false =>
  rw [hb] at h
  by_cases hE : E = 0
  ·unfold pbad at hb
   refine ⟨?_, ?_, ?_, hE⟩
   ·simp at hb; omega
   ·rintro rfl; simp at hb; omega
   ·rintro rfl; simp at hb; omega
  ·rw [if_neg hE] at h; cases h
section
variable (utf : List B → Bool) (flE : Nat → Nat → Int)
def Sb (sub : List Slt) : Prop := ∀ (p : VT) (dp fr : Int), ckT utf flE sub p dp = none → NmT p → (spL sub 0 0).2 ≤ 4194304 → (spL sub 0 0).1 ≤ (enT sub p).length ∧ (enT sub p).length ≤ (spL sub 0 0).2 ∧ deT utf flE sub (enT sub p) fr = none ∧ mgT sub (enT sub p) = p
def Sv (k : Int) (l m : Nat) (sub : List Slt) (f : Fd) (x : VT) : Prop := fits f ∧ Fok f ∧ (slsz k l m (spL sub 0 0)).1 ≤ (fvl f).length ∧ (fvl f).length ≤ (slsz k l m (spL sub 0 0)).2 ∧ (∀ at_, rdN utf flE k l m (deT utf flE sub) f at_ = none) ∧ vlN k (mgT sub) f = x
theorem sv_plain {no k : Int} {l m : Nat} {sub : List Slt} {x : VT} {deep : Int} (hno : 1 ≤ no ∧ no ≤ 536870911) (hfit : fitN k (l : Int) (m : Int) sub.length = true) (h8 : k ≠ 8) (h9 : k ≠ 9) (h : slT utf flE (.mk no k l m sub) x deep = none) (hx : NmT x) (hs : (slsz k l m (spL sub 0 0)).2 ≤ 4194304) : Sv utf flE k l m sub (fdS (.mk no k l m sub) x) x := by
 rw [slT_pl utf flE (t := .mk no k l m sub) h8 h9] at h
 obtain ⟨h1, h2, h3, h4⟩ := pck_none h
 replace h4 : plE8 utf flE k l m x = 0 := h4
 replace h2 : isB k = true → x.num = 0 := h2
 replace h3 : isB k = false → x.dat.length = 0 := h3
 obtain ⟨n, d, ps⟩ := x
 obtain rfl : ps = [] := List.eq_nil_of_length_eq_zero h1
 cases hx with
 | mk _ _ _ hn hd _ =>
 have ef : fdS (.mk no k l m sub) (.mk n d []) = ⟨no, wtA k, n, d⟩ := by
  show fdN no k (enT sub) (.mk n d []) = _
  unfold fdN
  rw [if_neg (show ¬ (k = 8 ∨ k = 9) by omega), if_neg h8, if_neg h9]
  rfl
 rw [ef]
 have ev : vlN k (mgT sub) ⟨no, wtA k, n, d⟩ = .mk n d [] := by unfold vlN; rw [if_neg h8, if_neg h9]
 have er : ∀ at_, rdN utf flE k l m (deT utf flE sub) ⟨no, wtA k, n, d⟩ at_ = none := by
  intro at_
  unfold rdN
  rw [if_neg h8, if_neg h9]
  show rdE at_ (plE8 utf flE k l m (.mk n d [])) = none
  rw [h4]
  rfl
 have ok : Fok ⟨no, wtA k, n, d⟩ := ⟨hn, hd, by show _ ≤ no; omega, by show no ≤ _; omega⟩
 refine ⟨?_, ok, ?_⟩
 ·unfold fits
  by_cases hb : k = 5 ∨ k = 6
  ·have hw2 : wtA k = 2 := by rcases hb with hb | hb <;> rw [hb] <;> rfl
   rw [if_pos hw2]
   exact h2 (by rcases hb with hb | hb <;> rw [hb] <;> rfl)
  ·have hisb : isB k = false := by unfold isB; simp; omega
   have hd0 : d = [] := List.eq_nil_of_length_eq_zero (h3 hisb)
   have hk := fit_cases hfit
   have hw2 : wtA k ≠ 2 := by
    rcases hk with ⟨q, _⟩ | ⟨q, _⟩ | ⟨q, _⟩ | q | ⟨q, _⟩ | q | q | ⟨q, _⟩
    ·rw [q]; decide
    ·rw [q]; decide
    ·rw [q]; decide
    ·rw [q]; decide
    ·exact absurd q hb
    ·rw [q]; decide
    ·exact absurd q h8
    ·exact absurd q h9
   rw [if_neg hw2]
   refine ⟨hd0, fun ht => ?_⟩
   replace ht : wtA k = 5 := ht
   rcases hk with ⟨q, _⟩ | ⟨q, _, q2⟩ | ⟨q, _⟩ | q | ⟨q, _⟩ | q | q | ⟨q, _⟩
   ·subst q; exact absurd ht (by decide)
   ·subst q
    have h6 : wth (n : Int) (l : Int) (m : Int) = 0 := h4
    have := wth0 h6
    show n ≤ 4294967295
    omega
   ·subst q; exact absurd ht (by decide)
   ·subst q; exact absurd ht (by decide)
   ·exact absurd q hb
   ·subst q; exact absurd ht (by decide)
   ·exact absurd q h8
   ·exact absurd q h9
 ·have hk := fit_cases hfit
  rcases hk with ⟨q, _⟩ | ⟨q, _, q2⟩ | ⟨q, _⟩ | q | ⟨q, _⟩ | q | q | ⟨q, _⟩
  ·subst q
   have h6 : wth (n : Int) (l : Int) (m : Int) = 0 := h4
   have := wth0 h6
   exact ⟨enm (show l ≤ n by omega), enm (show n ≤ m by omega), er, ev⟩
  ·subst q
   have e4 : (fvl ⟨no, wtA 2, n, d⟩).length = 4 := fx_len 4 n
   exact ⟨by rw [e4]; exact Nat.le_refl 4, by rw [e4]; exact Nat.le_refl 4, er, ev⟩
  ·subst q
   have e4 : (fvl ⟨no, wtA 3, n, d⟩).length = 8 := fx_len 8 n
   exact ⟨by rw [e4]; exact Nat.le_refl 8, by rw [e4]; exact Nat.le_refl 8, er, ev⟩
  ·subst q
   have h6 : wth (n : Int) 0 1 = 0 := h4
   have := wth0 h6
   have e1 : (fvl ⟨no, wtA 4, n, d⟩).length = 1 := by
    show (en n).length = 1
    rw [en_lo (by omega)]
    rfl
   exact ⟨by rw [e1]; exact Nat.le_refl 1, by rw [e1]; exact Nat.le_refl 1, er, ev⟩
  ·have hb5 : wth (d.length : Int) (l : Int) (m : Int) = 0 := by
    rcases q with q | q
    ·subst q; exact h4
    ·subst q
     unfold plE8 at h4
     rw [if_neg (show ¬ (6 : Int) = 5 by decide), if_pos (show (6 : Int) = 6 from rfl)] at h4
     split at h4
     ·rename_i hne; exact absurd h4 hne
     ·rename_i hne; exact Decidable.not_not.1 hne
   have hw := wth0 hb5
   have hfv : (fvl ⟨no, wtA k, n, d⟩).length = (en d.length).length + d.length := by
    have hw2 : wtA k = 2 := by rcases q with q | q <;> rw [q] <;> rfl
    rw [hw2]
    exact itm_len d
   have hsz : slsz k l m (spL sub 0 0) = (frm l, frm m) := by
    rcases q with q | q <;> subst q <;> rfl
   rw [hsz] at hs ⊢
   have hm := frm_small (show frm m ≤ 4194304 from hs)
   have hl := frm_down l
   have m1 := enm (show l ≤ d.length by omega)
   have m2 := enm (show d.length ≤ m by omega)
   exact ⟨by show frm l ≤ _; omega, by show _ ≤ frm m; omega, er, ev⟩
  ·subst q
   have e4 : (fvl ⟨no, wtA 7, n, d⟩).length = 8 := fx_len 8 n
   exact ⟨by rw [e4]; exact Nat.le_refl 8, by rw [e4]; exact Nat.le_refl 8, er, ev⟩
  ·exact absurd q h8
  ·exact absurd q h9
theorem sv_msg {no : Int} {l m : Nat} {sub : List Slt} {x : VT} {deep : Int} (hno : 1 ≤ no ∧ no ≤ 536870911) (hsub : Sb utf flE sub) (h : slT utf flE (.mk no 8 l m sub) x deep = none) (hx : NmT x) (hs : (slsz 8 l m (spL sub 0 0)).2 ≤ 4194304) : Sv utf flE 8 l m sub (fdS (.mk no 8 l m sub) x) x := by
 rw [slT_msg utf flE rfl] at h
 replace h : ckT utf flE sub x (deep + 1) = none := h
 have hm := frm_small (show frm (spL sub 0 0).2 ≤ 4194304 from hs)
 have hs2 : frm (spL sub 0 0).2 ≤ 4194304 := hs
 obtain ⟨b1, b2, _, b4⟩ := hsub x _ 0 h hx (by omega)
 have b3 := fun fr => (hsub x _ fr h hx (by omega)).2.2.1
 have ef : fdS (.mk no 8 l m sub) x = ⟨no, 2, 0, enT sub x⟩ := msg_field (.mk no 8 l m sub) rfl x
 rw [ef]
 have hfv : (fvl ⟨no, 2, 0, enT sub x⟩).length = (en (enT sub x).length).length + (enT sub x).length := itm_len _
 have hd := frm_down (spL sub 0 0).1
 have m1 := enm b1
 have m2 := enm b2
 refine ⟨rfl, ⟨by show 0 < 18446744073709551616; decide, by show (enT sub x).length ≤ _; omega, by show _ ≤ no; omega, by show no ≤ _; omega⟩, by show frm (spL sub 0 0).1 ≤ _; omega, by show _ ≤ frm (spL sub 0 0).2; omega, fun at_ => ?_, ?_⟩
 ·unfold rdN
  rw [if_pos rfl]
  exact b3 _
 ·unfold vlN
  rw [if_pos rfl]
  exact b4
theorem it_all {dec : List B → Int → Option Flt3} : ∀ {bs : List (List B)} (fr : Int), (∀ b ∈ bs, ∀ q, dec b q = none) → itN dec bs fr = none
 | [], _, _ => rfl
 | b :: bs, fr, h => by
  rw [itN, h b (by simp)]
  exact it_all _ (fun c hc => h c (by simp [hc]))
theorem jn_bd8 {en_ : VT → List B} {A C : Nat} : ∀ (ps : List VT), (∀ p ∈ ps, A ≤ (itm (en_ p)).length ∧ (itm (en_ p)).length ≤ C) → A * ps.length ≤ (jn (ps.map en_)).length ∧ (jn (ps.map en_)).length ≤ C * ps.length
 | [], _ => by simp [jn]
 | p :: ps, h => by
  have h1 := h p (by simp)
  have h2 := jn_bd8 ps (fun q hq => h q (by simp [hq]))
  rw [List.map_cons, jn, List.length_append, List.length_cons, Nat.mul_succ, Nat.mul_succ]
  omega
theorem map_back {f : VT → List B} {g : List B → VT} : ∀ {ps : List VT}, (∀ p ∈ ps, g (f p) = p) → (ps.map f).map g = ps
 | [], _ => rfl
 | p :: ps, h => by rw [List.map_cons, List.map_cons, h p (by simp), map_back (fun q hq => h q (by simp [hq]))]
theorem sv_list {no : Int} {l m : Nat} {sub : List Slt} {x : VT} {deep : Int} (hno : 1 ≤ no ∧ no ≤ 536870911) (hm4 : m ≤ 4096) (hsub : Sb utf flE sub) (h : slT utf flE (.mk no 9 l m sub) x deep = none) (hx : NmT x) (hs : (slsz 9 l m (spL sub 0 0)).2 ≤ 4194304) : Sv utf flE 9 l m sub (fdS (.mk no 9 l m sub) x) x := by
 rw [slT_lst utf flE rfl] at h
 replace h : (if x.num ≠ 0 ∨ 0 < x.dat.length then some (⟨deep, no, 84⟩ : Flt3) else if wth (x.parts.length : Int) (l : Int) (m : Int) ≠ 0 then some ⟨deep, no, wth (x.parts.length : Int) (l : Int) (m : Int)⟩ else frsT (fun p => ckT utf flE sub p (deep + 1)) x.parts) = none := h
 split at h
 ·cases h
 rename_i h0
 split at h
 ·cases h
 rename_i h1
 obtain ⟨n, d, ps⟩ := x
 obtain rfl : n = 0 := Nat.eq_zero_of_not_pos (fun q => h0 (.inl (by show n ≠ 0; omega)))
 obtain rfl : d = [] := List.eq_nil_of_length_eq_zero (Nat.eq_zero_of_not_pos (fun q => h0 (.inr q)))
 have hall := frs_none h
 have hw := wth0 (show wth (ps.length : Int) (l : Int) (m : Int) = 0 from Decidable.not_not.1 h1)
 cases hx with
 | mk _ _ _ _ _ hnp =>
 have hs2 : frm (cpd (frm (spL sub 0 0).2 * m)) ≤ 4194304 := hs
 have hf1 := frm_small hs2
 have hc1 := cpd_small (show cpd (frm (spL sub 0 0).2 * m) ≤ 4194304 by omega)
 rw [hc1] at hf1 hs2
 have hitem : ∀ p ∈ ps, (frm (spL sub 0 0).1 ≤ (itm (enT sub p)).length ∧ (itm (enT sub p)).length ≤ frm (spL sub 0 0).2) ∧ (enT sub p).length ≤ 4194304 ∧ (∀ q, deT utf flE sub (enT sub p) q = none) ∧ mgT sub (enT sub p) = p := by
  intro p hp
  have hpos : 1 ≤ m := by
   have : 0 < ps.length := List.length_pos_of_mem hp
   omega
  have hle : frm (spL sub 0 0).2 * 1 ≤ frm (spL sub 0 0).2 * m := Nat.mul_le_mul_left _ hpos
  have hS2 : frm (spL sub 0 0).2 ≤ 4194304 := by omega
  have hS3 := frm_small hS2
  obtain ⟨b1, b2, _, b4⟩ := hsub p _ 0 (hall p hp) (hnp p hp) (by omega)
  have m1 := enm b1
  have m2 := enm b2
  have hd := frm_down (spL sub 0 0).1
  rw [itm_len]
  exact ⟨⟨by omega, by omega⟩, by omega, fun q => (hsub p _ q (hall p hp) (hnp p hp) (by omega)).2.2.1, b4⟩
 obtain ⟨j1, j2⟩ := jn_bd8 ps (fun p hp => (hitem p hp).1)
 have k1 : frm (spL sub 0 0).1 * l ≤ frm (spL sub 0 0).1 * ps.length := Nat.mul_le_mul_left _ (by omega)
 have k2 : frm (spL sub 0 0).2 * ps.length ≤ frm (spL sub 0 0).2 * m := Nat.mul_le_mul_left _ (by omega)
 have hjo : jout (ps.map (enT sub)) = jn (ps.map (enT sub)) := if_neg (by unfold jbad; rw [List.length_map]; omega)
 have ef : fdS (.mk no 9 l m sub) (.mk 0 [] ps) = ⟨no, 2, 0, jn (ps.map (enT sub))⟩ := (lst_field (.mk no 9 l m sub) rfl (.mk 0 [] ps)).trans (by rw [← hjo]; rfl)
 rw [ef]
 have hsp : sp (jn (ps.map (enT sub))) = .ok (ps.map (enT sub)) := sp_jn8 (by rw [List.length_map]; omega) (by omega) (fun i hi => by
  have hm : gp (ps.map (enT sub)) i ∈ ps.map (enT sub) := by
   rw [gp, List.getD_eq_getElem?_getD, List.getElem?_eq_getElem hi]
   exact List.getElem_mem hi
  obtain ⟨p, hp, e⟩ := List.mem_map.1 hm
  rw [← e]
  have := (hitem p hp).2.1
  omega)
 have hfv : (fvl ⟨no, 2, 0, jn (ps.map (enT sub))⟩).length = (en (jn (ps.map (enT sub))).length).length + (jn (ps.map (enT sub))).length := itm_len _
 have hd2 := frm_down (cpd (frm (spL sub 0 0).1 * l))
 have hd3 := cpd_down (frm (spL sub 0 0).1 * l)
 have m1 := enm (show cpd (frm (spL sub 0 0).1 * l) ≤ (jn (ps.map (enT sub))).length by omega)
 have m2 := enm (show (jn (ps.map (enT sub))).length ≤ frm (spL sub 0 0).2 * m by omega)
 refine ⟨rfl, ⟨by show 0 < 18446744073709551616; decide, by show (jn (ps.map (enT sub))).length ≤ _; omega, by show _ ≤ no; omega, by show no ≤ _; omega⟩, by show frm (cpd (frm (spL sub 0 0).1 * l)) ≤ _; omega, by show _ ≤ frm (cpd (frm (spL sub 0 0).2 * m)); rw [hc1]; omega, fun at_ => ?_, ?_⟩
 ·unfold rdN
  rw [if_neg (show ¬ (9 : Int) = 8 by decide), if_pos (show (9 : Int) = 9 from rfl)]
  show lsN l m (deT utf flE sub) (jn (ps.map (enT sub))) at_ _ = none
  unfold lsN
  rw [hsp]
  rw [if_neg (by show ¬ ((0 : Int) ≠ 0); simp), if_neg (by show ¬ (wth (((ps.map (enT sub)).length : Nat) : Int) (l : Int) (m : Int) ≠ 0); rw [List.length_map]; exact h1)]
  refine it_all _ (fun b hb q => ?_)
  obtain ⟨p, hp, e⟩ := List.mem_map.1 hb
  rw [← e]
  exact (hitem p hp).2.2.1 q
 ·unfold vlN
  rw [if_neg (show ¬ (9 : Int) = 8 by decide), if_pos (show (9 : Int) = 9 from rfl)]
  show VT.mk 0 [] ((spp (sp (jn (ps.map (enT sub))))).map (mgT sub)) = _
  rw [hsp]
  show VT.mk 0 [] ((ps.map (enT sub)).map (mgT sub)) = _
  rw [map_back (fun p hp => (hitem p hp).2.2.2)]
def Rt (ts : List Slt) : Prop := ∀ (xs : List VT) (prev dpS : Int) (a b : Nat) (deep at_ : Int), vok ts prev dpS → 0 ≤ prev → chT utf flE ts xs deep = none → xs.length = ts.length → (∀ x ∈ xs, NmT x) → (spL ts a b).2 ≤ 4194304 →
 ech (fdT ts xs) prev = 0 ∧ (∀ f ∈ fdT ts xs, Fok f) ∧ (spL ts a b).1 ≤ a + (ebs (fdT ts xs)).length ∧ b + (ebs (fdT ts xs)).length ≤ (spL ts a b).2 ∧ dcT utf flE ts (fdT ts xs) at_ = none ∧ vlT ts (fdT ts xs) = xs
theorem sb_of {sub : List Slt} {dpS : Int} (h : Rt utf flE sub) (hl : sub.length ≤ 16) (hv : vok sub 0 dpS) : Sb utf flE sub := by
 intro p dp fr hc hn hsz
 obtain ⟨c1, c2, c3, c4⟩ := ck_none utf flE hc
 obtain ⟨n, d, ps⟩ := p
 obtain rfl : n = 0 := c1
 obtain rfl : d = [] := c2
 replace c3 : ps.length = sub.length := c3
 replace c4 : chT utf flE sub ps dp = none := c4
 cases hn with
 | mk _ _ _ _ _ hnp =>
 obtain ⟨r1, r2, r3, r4, r5, r6⟩ := h ps 0 dpS 0 0 dp fr hv (by decide) c4 c3 hnp hsz
 have hlen := fdT_len sub ps c3.symm
 have hee : eer (fdT sub ps) = 0 := eer_ok.2 ⟨by omega, r1, by omega⟩
 have hen : enT sub (.mk 0 [] ps) = ebs (fdT sub ps) := if_pos hee
 obtain ⟨d1, _, d3⟩ := enc_dec hee r2
 rw [hen]
 refine ⟨by omega, by omega, ?_, ?_⟩
 ·show decN (dcT utf flE sub) (ebs (fdT sub ps)) fr = none
  unfold decN
  rw [if_neg (by rw [d1]; simp), d3]
  exact r5
 ·show VT.mk 0 [] (vlT sub (dfs (dwh (ebs (fdT sub ps))))) = _
  rw [d3, r6]
theorem rt2 : ∀ ts : List Slt, Rt utf flE ts
 | [] => by
  intro xs prev dpS a b deep at_ _ _ _ hl _ hsz
  obtain rfl : xs = [] := List.eq_nil_of_length_eq_zero hl
  rw [fdT_nil]
  exact ⟨rfl, fun f hf => by simp at hf, by rw [spL, ebs]; show a ≤ a + 0; omega, by rw [spL, ebs]; show b + 0 ≤ b; omega, by rw [dcT], by rw [vlT_nil]⟩
 | .mk no k l m sub :: ts => by
  intro xs prev dpS a b deep at_ hv hp hc hl hn hsz
  cases xs with
  | nil => simp at hl
  | cons x xs =>
  rw [vok] at hv
  obtain ⟨⟨⟨v1, v2, v3⟩, hfit, hnst⟩, hvt⟩ := hv
  rw [chT_cons] at hc
  cases hs : slT utf flE (.mk no k l m sub) x deep with
  | some e => rw [hs] at hc; cases hc
  | none =>
  rw [hs] at hc
  rw [spL_cons] at hsz ⊢
  replace hsz : (spL ts (cpd (a + hdl no k + (slsz k l m (spL sub 0 0)).1)) (cpd (b + hdl no k + (slsz k l m (spL sub 0 0)).2))).2 ≤ 4194304 := hsz
  show _ ∧ _ ∧ (spL ts (cpd (a + hdl no k + (slsz k l m (spL sub 0 0)).1)) (cpd (b + hdl no k + (slsz k l m (spL sub 0 0)).2))).1 ≤ _ ∧ _ ≤ (spL ts (cpd (a + hdl no k + (slsz k l m (spL sub 0 0)).1)) (cpd (b + hdl no k + (slsz k l m (spL sub 0 0)).2))).2 ∧ _
  obtain ⟨i1, i2, i3, i4, i5, i6⟩ := rt2 ts xs no dpS (cpd (a + hdl no k + (slsz k l m (spL sub 0 0)).1)) (cpd (b + hdl no k + (slsz k l m (spL sub 0 0)).2)) deep (at_ + ((fby (fdS (.mk no k l m sub) x)).length : Int)) hvt (by omega) hc (by simpa using hl) (fun y hy => hn y (by simp [hy])) hsz
  have hb := cpd_small (show cpd (b + hdl no k + (slsz k l m (spL sub 0 0)).2) ≤ 4194304 by omega)
  have ha := cpd_down (a + hdl no k + (slsz k l m (spL sub 0 0)).1)
  have hs2 : (slsz k l m (spL sub 0 0)).2 ≤ 4194304 := by omega
  have hnx := hn x (by simp)
  have hSb : (k = 8 ∨ k = 9) → Sb utf flE sub := fun hk => sb_of utf flE (rt2 sub) (hnst hk).1 (hnst hk).2.2
  have hSv : Sv utf flE k l m sub (fdS (.mk no k l m sub) x) x := by
   by_cases h8 : k = 8
   ·subst h8
    exact sv_msg utf flE ⟨v2, v3⟩ (hSb (.inl rfl)) hs hnx hs2
   ·by_cases h9 : k = 9
    ·subst h9
     have hm4 : m ≤ 4096 := by rcases fit_cases hfit with q | q | q | q | q | q | q | q <;> omega
     exact sv_list utf flE ⟨v2, v3⟩ hm4 (hSb (.inr rfl)) hs hnx hs2
    ·exact sv_plain utf flE ⟨v2, v3⟩ hfit h8 h9 hs hnx hs2
  obtain ⟨s1, s2, s3, s4, s5, s6⟩ := hSv
  have hfl : (fby (fdS (.mk no k l m sub) x)).length = hdl no k + (fvl (fdS (.mk no k l m sub) x)).length := by
   rw [fby, List.length_append]
   rfl
  have hck0 : hck (fdS (.mk no k l m sub) x) prev = 0 := by
   unfold hck
   rw [if_neg (by show ¬ (no ≤ prev ∨ 536870911 < no); omega), if_pos (by show known (wtA k); unfold known wtA; split; exact .inr (.inr (.inr rfl)); split; exact .inr (.inl rfl); split; exact .inl rfl; exact .inr (.inr (.inl rfl)))]
  have hfk : fck (fdS (.mk no k l m sub) x) prev = 0 := by
   unfold fck
   rw [if_neg (by rw [hck0]; simp), if_pos s1]
  rw [fdT_cons]
  refine ⟨?_, ?_, ?_, ?_, ?_, ?_⟩
  ·rw [ech, if_neg (by rw [hfk]; simp)]
   exact i1
  ·intro f hf
   rcases List.mem_cons.1 hf with rfl | hf
   ·exact s2
   ·exact i2 f hf
  ·rw [ebs, List.length_append]
   omega
  ·rw [ebs, List.length_append]
   omega
  ·rw [dcT_cons]
   have : dsT utf flE (.mk no k l m sub) (fdS (.mk no k l m sub) x) at_ = none := by
    show dsN utf flE no k l m (deT utf flE sub) (fdS (.mk no k l m sub) x) at_ = none
    unfold dsN
    rw [if_neg (by show ¬ (no ≠ no); simp), if_neg (by show ¬ (wtA k ≠ wtA k); simp)]
    exact s5 at_
   rw [this]
   exact i5
  ·rw [vlT_cons, i6]
   show vlN k (mgT sub) (fdS (.mk no k l m sub) x) :: xs = _
   rw [s6]
theorem enc_back {ts : List Slt} {dpS : Int} (hl : ts.length ≤ 64) (hv : vok ts 0 dpS) (hs : (spL ts 0 0).2 ≤ 4194304) {X : VT} (hX : NmT X) {deep fr : Int} (hc : ckT utf flE ts X deep = none) : (spL ts 0 0).1 ≤ (enT ts X).length ∧ (enT ts X).length ≤ (spL ts 0 0).2 ∧ deT utf flE ts (enT ts X) fr = none ∧ mgT ts (enT ts X) = X := by
 obtain ⟨c1, c2, c3, c4⟩ := ck_none utf flE hc
 obtain ⟨n, d, ps⟩ := X
 obtain rfl : n = 0 := c1
 obtain rfl : d = [] := c2
 replace c3 : ps.length = ts.length := c3
 replace c4 : chT utf flE ts ps deep = none := c4
 cases hX with
 | mk _ _ _ _ _ hnp =>
 obtain ⟨r1, r2, r3, r4, r5, r6⟩ := rt2 utf flE ts ps 0 dpS 0 0 deep fr hv (by decide) c4 c3 hnp hs
 have hlen := fdT_len ts ps c3.symm
 have hee : eer (fdT ts ps) = 0 := eer_ok.2 ⟨by omega, r1, by omega⟩
 have hen : enT ts (.mk 0 [] ps) = ebs (fdT ts ps) := if_pos hee
 obtain ⟨d1, _, d3⟩ := enc_dec hee r2
 rw [hen]
 refine ⟨by omega, by omega, ?_, ?_⟩
 ·show decN (dcT utf flE ts) (ebs (fdT ts ps)) fr = none
  unfold decN
  rw [if_neg (by rw [d1]; simp), d3]
  exact r5
 ·show VT.mk 0 [] (vlT ts (dfs (dwh (ebs (fdT ts ps))))) = _
  rw [d3, r6]
end
end Go.Proofs.YtalgcjkiajojoaaGreatDoor
namespace Go.Proofs.YtalgcjkiajojoaaGreatDoor
set_option maxRecDepth 100000
open Go Go.RowKit Go.Sort
attribute [local go_sem] setCell_drewN alloc_drewN
def u8l (d : List B) : List UInt8 := d.map UInt8.ofBitVec
def utD (d : List B) : Bool := Lib.validD (u8l d)
theorem bys_cell {W : World} {a : Option Addr} {n c : Nat} {d : List B} (h : BysB W (.slice a n c) d) (h0 : 0 < d.length) : ∃ b off, a = some ⟨b, off, none⟩ ∧ n = d.length ∧ b < W.heap.size ∧ ∀ j, j < d.length → W.cell? ⟨b, off + j, none⟩ = some (.int .u8 (bv (gb d j))) := by
 obtain ⟨⟨ao, cap, e, hl, hc, hz⟩, _⟩ := h
 injection e with e1 e2 e3
 subst e1 e2 e3
 have hbl : (bl d).length = d.length := bl_len d
 obtain ⟨b, off, ea, hb, _⟩ := hc 0 (by omega)
 refine ⟨b, off, ea, hbl, hb, fun j hj => ?_⟩
 obtain ⟨b2, off2, ea2, hb2, h2⟩ := hc j (by omega)
 rw [ea] at ea2
 injection ea2 with ea2
 injection ea2 with q1 q2 _
 subst q1 q2
 rw [h2, bl_get]
 rfl
set_option maxRecDepth 100000 in
set_option maxHeartbeats 8000000 in
theorem a_word8 (x0 x1 x2 x3 x4 x5 x6 x7 : Nat) (hx : x0 < 256 ∧ x1 < 256 ∧ x2 < 256 ∧ x3 < 256 ∧ x4 < 256 ∧ x5 < 256 ∧ x6 < 256 ∧ x7 < 256) (b off n c : Nat) (w : World) (hn : 8 ≤ n) (hS : (fun W_ : World => W_.cell? ⟨b, off, none⟩ = some (.int .u8 (x0 : Int)) ∧ W_.cell? ⟨b, off + 1, none⟩ = some (.int .u8 (x1 : Int)) ∧ W_.cell? ⟨b, off + 2, none⟩ = some (.int .u8 (x2 : Int)) ∧ W_.cell? ⟨b, off + 3, none⟩ = some (.int .u8 (x3 : Int)) ∧ W_.cell? ⟨b, off + 4, none⟩ = some (.int .u8 (x4 : Int)) ∧ W_.cell? ⟨b, off + 5, none⟩ = some (.int .u8 (x5 : Int)) ∧ W_.cell? ⟨b, off + 6, none⟩ = some (.int .u8 (x6 : Int)) ∧ W_.cell? ⟨b, off + 7, none⟩ = some (.int .u8 (x7 : Int))) w) :
 Calls Tryz.prog 91 #[.slice (some ⟨b, off, none⟩) n c] w fun e w' => e = .returned (.int .u64 ((x0 + x1 * 256 + x2 * 65536 + x3 * 16777216 + x4 * 4294967296 + x5 * 1099511627776 + x6 * 281474976710656 + x7 * 72057594037927936 : Nat) : Int)) ∧ ∃ q, w' = w.drewN q := by
 obtain ⟨h0, h1, h2, h3, h4, h5, h6, h7⟩ := hx
 have q0 : (0 : Int) < (n : Int) := by omega
 have q1 : (1 : Int) < (n : Int) := by omega
 have q2 : (2 : Int) < (n : Int) := by omega
 have q3 : (3 : Int) < (n : Int) := by omega
 have q4 : (4 : Int) < (n : Int) := by omega
 have q5 : (5 : Int) < (n : Int) := by omega
 have q6 : (6 : Int) < (n : Int) := by omega
 have q7 : (7 : Int) < (n : Int) := by omega
 have p0 : 0 < n := by omega
 have p1 : 1 < n := by omega
 have p2 : 2 < n := by omega
 have p3 : 3 < n := by omega
 have p4 : 4 < n := by omega
 have p5 : 5 < n := by omega
 have p6 : 6 < n := by omega
 have p7 : 7 < n := by omega
 go_enter Tryz.func91, Tryz.ntmps91
 go_upto_region 2 with (fail)
 have hbd : ∃ q, w.drew = w.drewN q := ⟨1, rfl⟩
 have hS0 : (fun W_ : World => W_.cell? ⟨b, off, none⟩ = some (.int .u8 (x0 : Int)) ∧ W_.cell? ⟨b, off + 1, none⟩ = some (.int .u8 (x1 : Int)) ∧ W_.cell? ⟨b, off + 2, none⟩ = some (.int .u8 (x2 : Int)) ∧ W_.cell? ⟨b, off + 3, none⟩ = some (.int .u8 (x3 : Int)) ∧ W_.cell? ⟨b, off + 4, none⟩ = some (.int .u8 (x4 : Int)) ∧ W_.cell? ⟨b, off + 5, none⟩ = some (.int .u8 (x5 : Int)) ∧ W_.cell? ⟨b, off + 6, none⟩ = some (.int .u8 (x6 : Int)) ∧ W_.cell? ⟨b, off + 7, none⟩ = some (.int .u8 (x7 : Int))) w.drew := hS
 refine wp_region_noPanic ?_
 refine wp_region_held (S := fun W_ : World => W_.cell? ⟨b, off, none⟩ = some (.int .u8 (x0 : Int)) ∧ W_.cell? ⟨b, off + 1, none⟩ = some (.int .u8 (x1 : Int)) ∧ W_.cell? ⟨b, off + 2, none⟩ = some (.int .u8 (x2 : Int)) ∧ W_.cell? ⟨b, off + 3, none⟩ = some (.int .u8 (x3 : Int)) ∧ W_.cell? ⟨b, off + 4, none⟩ = some (.int .u8 (x4 : Int)) ∧ W_.cell? ⟨b, off + 5, none⟩ = some (.int .u8 (x5 : Int)) ∧ W_.cell? ⟨b, off + 6, none⟩ = some (.int .u8 (x6 : Int)) ∧ W_.cell? ⟨b, off + 7, none⟩ = some (.int .u8 (x7 : Int))) (by kernel_rfl) ?_
 change wpAnyH _ _ _ _ _ _ _ _ (World.drew _)
 generalize w.drew = w1 at *
 refine wpAnyH_take (i := 0) (v := ?v0) rfl (by kernel_rfl) (by kernel_rfl) (by kernel_rfl) (fun _ _ _ h => h) (Or.inl ⟨by rfl, ?y0⟩) hS0 ?r0
 case y0 =>
  intro w_ hS_
  skip
  go_simp
  try with_reducible rfl
 simp only [Act.put, List.getElem_toArray, List.getElem_cons_zero, List.setIfInBounds_toArray, List.set_cons_succ, List.set_cons_zero]
 refine wpAnyH_take (i := 1) (v := ?v1) rfl (by kernel_rfl) (by kernel_rfl) (by kernel_rfl) (fun _ _ _ h => h) (Or.inl ⟨by rfl, ?y1⟩) hS0 ?r1
 case y1 =>
  intro w_ hS_
  skip
  go_simp
  try with_reducible rfl
 simp only [Act.put, List.getElem_toArray, List.getElem_cons_succ, List.getElem_cons_zero, List.setIfInBounds_toArray, List.set_cons_succ, List.set_cons_zero]
 refine wpAnyH_take (i := 2) (v := .int .u8 (x0 : Int)) rfl (by kernel_rfl) (by kernel_rfl) (by kernel_rfl) (fun _ _ _ h => h) (Or.inl ⟨by rfl, ?y2⟩) hS0 ?r2
 case y2 =>
  intro w_ hS_
  have c_ := hS_.1
  go_simp
  try with_reducible rfl
 simp only [Act.put, List.getElem_toArray, List.getElem_cons_succ, List.getElem_cons_zero, List.setIfInBounds_toArray, List.set_cons_succ, List.set_cons_zero]
 refine wpAnyH_take (i := 3) (v := ?v3) rfl (by kernel_rfl) (by kernel_rfl) (by kernel_rfl) (fun _ _ _ h => h) (Or.inl ⟨by rfl, ?y3⟩) hS0 ?r3
 case y3 =>
  intro w_ hS_
  skip
  go_simp
  try with_reducible rfl
 simp only [Act.put, List.getElem_toArray, List.getElem_cons_succ, List.getElem_cons_zero, List.setIfInBounds_toArray, List.set_cons_succ, List.set_cons_zero]
 refine wpAnyH_take (i := 4) (v := ?v4) rfl (by kernel_rfl) (by kernel_rfl) (by kernel_rfl) (fun _ _ _ h => h) (Or.inl ⟨by rfl, ?y4⟩) hS0 ?r4
 case y4 =>
  intro w_ hS_
  skip
  go_simp
  try with_reducible rfl
 simp only [Act.put, List.getElem_toArray, List.getElem_cons_succ, List.getElem_cons_zero, List.setIfInBounds_toArray, List.set_cons_succ, List.set_cons_zero]
 refine wpAnyH_take (i := 5) (v := ?v5) rfl (by kernel_rfl) (by kernel_rfl) (by kernel_rfl) (fun _ _ _ h => h) (Or.inl ⟨by rfl, ?y5⟩) hS0 ?r5
 case y5 =>
  intro w_ hS_
  skip
  go_simp
  try with_reducible rfl
 simp only [Act.put, List.getElem_toArray, List.getElem_cons_succ, List.getElem_cons_zero, List.setIfInBounds_toArray, List.set_cons_succ, List.set_cons_zero]
 refine wpAnyH_take (i := 6) (v := .int .u8 (x1 : Int)) rfl (by kernel_rfl) (by kernel_rfl) (by kernel_rfl) (fun _ _ _ h => h) (Or.inl ⟨by rfl, ?y6⟩) hS0 ?r6
 case y6 =>
  intro w_ hS_
  have c_ := hS_.2.1
  go_simp
  try with_reducible rfl
 simp only [Act.put, List.getElem_toArray, List.getElem_cons_succ, List.getElem_cons_zero, List.setIfInBounds_toArray, List.set_cons_succ, List.set_cons_zero]
 refine wpAnyH_take (i := 7) (v := ?v7) rfl (by kernel_rfl) (by kernel_rfl) (by kernel_rfl) (fun _ _ _ h => h) (Or.inl ⟨by rfl, ?y7⟩) hS0 ?r7
 case y7 =>
  intro w_ hS_
  skip
  go_simp
  try with_reducible rfl
 simp only [Act.put, List.getElem_toArray, List.getElem_cons_succ, List.getElem_cons_zero, List.setIfInBounds_toArray, List.set_cons_succ, List.set_cons_zero]
 refine wpAnyH_take (i := 8) (v := ?v8) rfl (by kernel_rfl) (by kernel_rfl) (by kernel_rfl) (fun _ _ _ h => h) (Or.inl ⟨by rfl, ?y8⟩) hS0 ?r8
 case y8 =>
  intro w_ hS_
  skip
  go_simp
  try with_reducible rfl
 simp only [Act.put, List.getElem_toArray, List.getElem_cons_succ, List.getElem_cons_zero, List.setIfInBounds_toArray, List.set_cons_succ, List.set_cons_zero]
 refine wpAnyH_take (i := 9) (v := ?v9) rfl (by kernel_rfl) (by kernel_rfl) (by kernel_rfl) (fun _ _ _ h => h) (Or.inl ⟨by rfl, ?y9⟩) hS0 ?r9
 case y9 =>
  intro w_ hS_
  skip
  go_simp
  try with_reducible rfl
 simp only [Act.put, List.getElem_toArray, List.getElem_cons_succ, List.getElem_cons_zero, List.setIfInBounds_toArray, List.set_cons_succ, List.set_cons_zero]
 refine wpAnyH_take (i := 10) (v := ?v10) rfl (by kernel_rfl) (by kernel_rfl) (by kernel_rfl) (fun _ _ _ h => h) (Or.inl ⟨by rfl, ?y10⟩) hS0 ?r10
 case y10 =>
  intro w_ hS_
  skip
  go_simp
  try with_reducible rfl
 simp only [Act.put, List.getElem_toArray, List.getElem_cons_succ, List.getElem_cons_zero, List.setIfInBounds_toArray, List.set_cons_succ, List.set_cons_zero]
 refine wpAnyH_take (i := 11) (v := ?v11) rfl (by kernel_rfl) (by kernel_rfl) (by kernel_rfl) (fun _ _ _ h => h) (Or.inl ⟨by rfl, ?y11⟩) hS0 ?r11
 case y11 =>
  intro w_ hS_
  skip
  go_simp
  try with_reducible rfl
 simp only [Act.put, List.getElem_toArray, List.getElem_cons_succ, List.getElem_cons_zero, List.setIfInBounds_toArray, List.set_cons_succ, List.set_cons_zero]
 refine wpAnyH_take (i := 12) (v := .int .u8 (x2 : Int)) rfl (by kernel_rfl) (by kernel_rfl) (by kernel_rfl) (fun _ _ _ h => h) (Or.inl ⟨by rfl, ?y12⟩) hS0 ?r12
 case y12 =>
  intro w_ hS_
  have c_ := hS_.2.2.1
  go_simp
  try with_reducible rfl
 simp only [Act.put, List.getElem_toArray, List.getElem_cons_succ, List.getElem_cons_zero, List.setIfInBounds_toArray, List.set_cons_succ, List.set_cons_zero]
 refine wpAnyH_take (i := 13) (v := ?v13) rfl (by kernel_rfl) (by kernel_rfl) (by kernel_rfl) (fun _ _ _ h => h) (Or.inl ⟨by rfl, ?y13⟩) hS0 ?r13
 case y13 =>
  intro w_ hS_
  skip
  go_simp
  try with_reducible rfl
 simp only [Act.put, List.getElem_toArray, List.getElem_cons_succ, List.getElem_cons_zero, List.setIfInBounds_toArray, List.set_cons_succ, List.set_cons_zero]
 refine wpAnyH_take (i := 14) (v := ?v14) rfl (by kernel_rfl) (by kernel_rfl) (by kernel_rfl) (fun _ _ _ h => h) (Or.inl ⟨by rfl, ?y14⟩) hS0 ?r14
 case y14 =>
  intro w_ hS_
  skip
  go_simp
  try with_reducible rfl
 simp only [Act.put, List.getElem_toArray, List.getElem_cons_succ, List.getElem_cons_zero, List.setIfInBounds_toArray, List.set_cons_succ, List.set_cons_zero]
 refine wpAnyH_take (i := 15) (v := ?v15) rfl (by kernel_rfl) (by kernel_rfl) (by kernel_rfl) (fun _ _ _ h => h) (Or.inl ⟨by rfl, ?y15⟩) hS0 ?r15
 case y15 =>
  intro w_ hS_
  skip
  go_simp
  try with_reducible rfl
 simp only [Act.put, List.getElem_toArray, List.getElem_cons_succ, List.getElem_cons_zero, List.setIfInBounds_toArray, List.set_cons_succ, List.set_cons_zero]
 refine wpAnyH_take (i := 16) (v := ?v16) rfl (by kernel_rfl) (by kernel_rfl) (by kernel_rfl) (fun _ _ _ h => h) (Or.inl ⟨by rfl, ?y16⟩) hS0 ?r16
 case y16 =>
  intro w_ hS_
  skip
  go_simp
  try with_reducible rfl
 simp only [Act.put, List.getElem_toArray, List.getElem_cons_succ, List.getElem_cons_zero, List.setIfInBounds_toArray, List.set_cons_succ, List.set_cons_zero]
 refine wpAnyH_take (i := 17) (v := ?v17) rfl (by kernel_rfl) (by kernel_rfl) (by kernel_rfl) (fun _ _ _ h => h) (Or.inl ⟨by rfl, ?y17⟩) hS0 ?r17
 case y17 =>
  intro w_ hS_
  skip
  go_simp
  try with_reducible rfl
 simp only [Act.put, List.getElem_toArray, List.getElem_cons_succ, List.getElem_cons_zero, List.setIfInBounds_toArray, List.set_cons_succ, List.set_cons_zero]
 refine wpAnyH_take (i := 18) (v := .int .u8 (x3 : Int)) rfl (by kernel_rfl) (by kernel_rfl) (by kernel_rfl) (fun _ _ _ h => h) (Or.inl ⟨by rfl, ?y18⟩) hS0 ?r18
 case y18 =>
  intro w_ hS_
  have c_ := hS_.2.2.2.1
  go_simp
  try with_reducible rfl
 simp only [Act.put, List.getElem_toArray, List.getElem_cons_succ, List.getElem_cons_zero, List.setIfInBounds_toArray, List.set_cons_succ, List.set_cons_zero]
 refine wpAnyH_take (i := 19) (v := ?v19) rfl (by kernel_rfl) (by kernel_rfl) (by kernel_rfl) (fun _ _ _ h => h) (Or.inl ⟨by rfl, ?y19⟩) hS0 ?r19
 case y19 =>
  intro w_ hS_
  skip
  go_simp
  try with_reducible rfl
 simp only [Act.put, List.getElem_toArray, List.getElem_cons_succ, List.getElem_cons_zero, List.setIfInBounds_toArray, List.set_cons_succ, List.set_cons_zero]
 refine wpAnyH_take (i := 20) (v := ?v20) rfl (by kernel_rfl) (by kernel_rfl) (by kernel_rfl) (fun _ _ _ h => h) (Or.inl ⟨by rfl, ?y20⟩) hS0 ?r20
 case y20 =>
  intro w_ hS_
  skip
  go_simp
  try with_reducible rfl
 simp only [Act.put, List.getElem_toArray, List.getElem_cons_succ, List.getElem_cons_zero, List.setIfInBounds_toArray, List.set_cons_succ, List.set_cons_zero]
 refine wpAnyH_take (i := 21) (v := ?v21) rfl (by kernel_rfl) (by kernel_rfl) (by kernel_rfl) (fun _ _ _ h => h) (Or.inl ⟨by rfl, ?y21⟩) hS0 ?r21
 case y21 =>
  intro w_ hS_
  skip
  go_simp
  try with_reducible rfl
 simp only [Act.put, List.getElem_toArray, List.getElem_cons_succ, List.getElem_cons_zero, List.setIfInBounds_toArray, List.set_cons_succ, List.set_cons_zero]
 refine wpAnyH_take (i := 22) (v := ?v22) rfl (by kernel_rfl) (by kernel_rfl) (by kernel_rfl) (fun _ _ _ h => h) (Or.inl ⟨by rfl, ?y22⟩) hS0 ?r22
 case y22 =>
  intro w_ hS_
  skip
  go_simp
  try with_reducible rfl
 simp only [Act.put, List.getElem_toArray, List.getElem_cons_succ, List.getElem_cons_zero, List.setIfInBounds_toArray, List.set_cons_succ, List.set_cons_zero]
 refine wpAnyH_take (i := 23) (v := ?v23) rfl (by kernel_rfl) (by kernel_rfl) (by kernel_rfl) (fun _ _ _ h => h) (Or.inl ⟨by rfl, ?y23⟩) hS0 ?r23
 case y23 =>
  intro w_ hS_
  skip
  go_simp
  try with_reducible rfl
 simp only [Act.put, List.getElem_toArray, List.getElem_cons_succ, List.getElem_cons_zero, List.setIfInBounds_toArray, List.set_cons_succ, List.set_cons_zero]
 refine wpAnyH_take (i := 24) (v := .int .u8 (x4 : Int)) rfl (by kernel_rfl) (by kernel_rfl) (by kernel_rfl) (fun _ _ _ h => h) (Or.inl ⟨by rfl, ?y24⟩) hS0 ?r24
 case y24 =>
  intro w_ hS_
  have c_ := hS_.2.2.2.2.1
  go_simp
  try with_reducible rfl
 simp only [Act.put, List.getElem_toArray, List.getElem_cons_succ, List.getElem_cons_zero, List.setIfInBounds_toArray, List.set_cons_succ, List.set_cons_zero]
 refine wpAnyH_take (i := 25) (v := ?v25) rfl (by kernel_rfl) (by kernel_rfl) (by kernel_rfl) (fun _ _ _ h => h) (Or.inl ⟨by rfl, ?y25⟩) hS0 ?r25
 case y25 =>
  intro w_ hS_
  skip
  go_simp
  try with_reducible rfl
 simp only [Act.put, List.getElem_toArray, List.getElem_cons_succ, List.getElem_cons_zero, List.setIfInBounds_toArray, List.set_cons_succ, List.set_cons_zero]
 refine wpAnyH_take (i := 26) (v := ?v26) rfl (by kernel_rfl) (by kernel_rfl) (by kernel_rfl) (fun _ _ _ h => h) (Or.inl ⟨by rfl, ?y26⟩) hS0 ?r26
 case y26 =>
  intro w_ hS_
  skip
  go_simp
  try with_reducible rfl
 simp only [Act.put, List.getElem_toArray, List.getElem_cons_succ, List.getElem_cons_zero, List.setIfInBounds_toArray, List.set_cons_succ, List.set_cons_zero]
 refine wpAnyH_take (i := 27) (v := ?v27) rfl (by kernel_rfl) (by kernel_rfl) (by kernel_rfl) (fun _ _ _ h => h) (Or.inl ⟨by rfl, ?y27⟩) hS0 ?r27
 case y27 =>
  intro w_ hS_
  skip
  go_simp
  try with_reducible rfl
 simp only [Act.put, List.getElem_toArray, List.getElem_cons_succ, List.getElem_cons_zero, List.setIfInBounds_toArray, List.set_cons_succ, List.set_cons_zero]
 refine wpAnyH_take (i := 28) (v := ?v28) rfl (by kernel_rfl) (by kernel_rfl) (by kernel_rfl) (fun _ _ _ h => h) (Or.inl ⟨by rfl, ?y28⟩) hS0 ?r28
 case y28 =>
  intro w_ hS_
  skip
  go_simp
  try with_reducible rfl
 simp only [Act.put, List.getElem_toArray, List.getElem_cons_succ, List.getElem_cons_zero, List.setIfInBounds_toArray, List.set_cons_succ, List.set_cons_zero]
 refine wpAnyH_take (i := 29) (v := ?v29) rfl (by kernel_rfl) (by kernel_rfl) (by kernel_rfl) (fun _ _ _ h => h) (Or.inl ⟨by rfl, ?y29⟩) hS0 ?r29
 case y29 =>
  intro w_ hS_
  skip
  go_simp
  try with_reducible rfl
 simp only [Act.put, List.getElem_toArray, List.getElem_cons_succ, List.getElem_cons_zero, List.setIfInBounds_toArray, List.set_cons_succ, List.set_cons_zero]
 refine wpAnyH_take (i := 30) (v := .int .u8 (x5 : Int)) rfl (by kernel_rfl) (by kernel_rfl) (by kernel_rfl) (fun _ _ _ h => h) (Or.inl ⟨by rfl, ?y30⟩) hS0 ?r30
 case y30 =>
  intro w_ hS_
  have c_ := hS_.2.2.2.2.2.1
  go_simp
  try with_reducible rfl
 simp only [Act.put, List.getElem_toArray, List.getElem_cons_succ, List.getElem_cons_zero, List.setIfInBounds_toArray, List.set_cons_succ, List.set_cons_zero]
 refine wpAnyH_take (i := 31) (v := ?v31) rfl (by kernel_rfl) (by kernel_rfl) (by kernel_rfl) (fun _ _ _ h => h) (Or.inl ⟨by rfl, ?y31⟩) hS0 ?r31
 case y31 =>
  intro w_ hS_
  skip
  go_simp
  try with_reducible rfl
 simp only [Act.put, List.getElem_toArray, List.getElem_cons_succ, List.getElem_cons_zero, List.setIfInBounds_toArray, List.set_cons_succ, List.set_cons_zero]
 refine wpAnyH_take (i := 32) (v := ?v32) rfl (by kernel_rfl) (by kernel_rfl) (by kernel_rfl) (fun _ _ _ h => h) (Or.inl ⟨by rfl, ?y32⟩) hS0 ?r32
 case y32 =>
  intro w_ hS_
  skip
  go_simp
  try with_reducible rfl
 simp only [Act.put, List.getElem_toArray, List.getElem_cons_succ, List.getElem_cons_zero, List.setIfInBounds_toArray, List.set_cons_succ, List.set_cons_zero]
 refine wpAnyH_take (i := 33) (v := ?v33) rfl (by kernel_rfl) (by kernel_rfl) (by kernel_rfl) (fun _ _ _ h => h) (Or.inl ⟨by rfl, ?y33⟩) hS0 ?r33
 case y33 =>
  intro w_ hS_
  skip
  go_simp
  try with_reducible rfl
 simp only [Act.put, List.getElem_toArray, List.getElem_cons_succ, List.getElem_cons_zero, List.setIfInBounds_toArray, List.set_cons_succ, List.set_cons_zero]
 refine wpAnyH_take (i := 34) (v := ?v34) rfl (by kernel_rfl) (by kernel_rfl) (by kernel_rfl) (fun _ _ _ h => h) (Or.inl ⟨by rfl, ?y34⟩) hS0 ?r34
 case y34 =>
  intro w_ hS_
  skip
  go_simp
  try with_reducible rfl
 simp only [Act.put, List.getElem_toArray, List.getElem_cons_succ, List.getElem_cons_zero, List.setIfInBounds_toArray, List.set_cons_succ, List.set_cons_zero]
 refine wpAnyH_take (i := 35) (v := ?v35) rfl (by kernel_rfl) (by kernel_rfl) (by kernel_rfl) (fun _ _ _ h => h) (Or.inl ⟨by rfl, ?y35⟩) hS0 ?r35
 case y35 =>
  intro w_ hS_
  skip
  go_simp
  try with_reducible rfl
 simp only [Act.put, List.getElem_toArray, List.getElem_cons_succ, List.getElem_cons_zero, List.setIfInBounds_toArray, List.set_cons_succ, List.set_cons_zero]
 refine wpAnyH_take (i := 36) (v := .int .u8 (x6 : Int)) rfl (by kernel_rfl) (by kernel_rfl) (by kernel_rfl) (fun _ _ _ h => h) (Or.inl ⟨by rfl, ?y36⟩) hS0 ?r36
 case y36 =>
  intro w_ hS_
  have c_ := hS_.2.2.2.2.2.2.1
  go_simp
  try with_reducible rfl
 simp only [Act.put, List.getElem_toArray, List.getElem_cons_succ, List.getElem_cons_zero, List.setIfInBounds_toArray, List.set_cons_succ, List.set_cons_zero]
 refine wpAnyH_take (i := 37) (v := ?v37) rfl (by kernel_rfl) (by kernel_rfl) (by kernel_rfl) (fun _ _ _ h => h) (Or.inl ⟨by rfl, ?y37⟩) hS0 ?r37
 case y37 =>
  intro w_ hS_
  skip
  go_simp
  try with_reducible rfl
 simp only [Act.put, List.getElem_toArray, List.getElem_cons_succ, List.getElem_cons_zero, List.setIfInBounds_toArray, List.set_cons_succ, List.set_cons_zero]
 refine wpAnyH_take (i := 38) (v := ?v38) rfl (by kernel_rfl) (by kernel_rfl) (by kernel_rfl) (fun _ _ _ h => h) (Or.inl ⟨by rfl, ?y38⟩) hS0 ?r38
 case y38 =>
  intro w_ hS_
  skip
  go_simp
  try with_reducible rfl
 simp only [Act.put, List.getElem_toArray, List.getElem_cons_succ, List.getElem_cons_zero, List.setIfInBounds_toArray, List.set_cons_succ, List.set_cons_zero]
 refine wpAnyH_take (i := 39) (v := ?v39) rfl (by kernel_rfl) (by kernel_rfl) (by kernel_rfl) (fun _ _ _ h => h) (Or.inl ⟨by rfl, ?y39⟩) hS0 ?r39
 case y39 =>
  intro w_ hS_
  skip
  go_simp
  try with_reducible rfl
 simp only [Act.put, List.getElem_toArray, List.getElem_cons_succ, List.getElem_cons_zero, List.setIfInBounds_toArray, List.set_cons_succ, List.set_cons_zero]
 refine wpAnyH_take (i := 40) (v := ?v40) rfl (by kernel_rfl) (by kernel_rfl) (by kernel_rfl) (fun _ _ _ h => h) (Or.inl ⟨by rfl, ?y40⟩) hS0 ?r40
 case y40 =>
  intro w_ hS_
  skip
  go_simp
  try with_reducible rfl
 simp only [Act.put, List.getElem_toArray, List.getElem_cons_succ, List.getElem_cons_zero, List.setIfInBounds_toArray, List.set_cons_succ, List.set_cons_zero]
 refine wpAnyH_take (i := 41) (v := ?v41) rfl (by kernel_rfl) (by kernel_rfl) (by kernel_rfl) (fun _ _ _ h => h) (Or.inl ⟨by rfl, ?y41⟩) hS0 ?r41
 case y41 =>
  intro w_ hS_
  skip
  go_simp
  try with_reducible rfl
 simp only [Act.put, List.getElem_toArray, List.getElem_cons_succ, List.getElem_cons_zero, List.setIfInBounds_toArray, List.set_cons_succ, List.set_cons_zero]
 refine wpAnyH_take (i := 42) (v := .int .u8 (x7 : Int)) rfl (by kernel_rfl) (by kernel_rfl) (by kernel_rfl) (fun _ _ _ h => h) (Or.inl ⟨by rfl, ?y42⟩) hS0 ?r42
 case y42 =>
  intro w_ hS_
  have c_ := hS_.2.2.2.2.2.2.2
  go_simp
  try with_reducible rfl
 simp only [Act.put, List.getElem_toArray, List.getElem_cons_succ, List.getElem_cons_zero, List.setIfInBounds_toArray, List.set_cons_succ, List.set_cons_zero]
 refine wpAnyH_take (i := 43) (v := ?v43) rfl (by kernel_rfl) (by kernel_rfl) (by kernel_rfl) (fun _ _ _ h => h) (Or.inl ⟨by rfl, ?y43⟩) hS0 ?r43
 case y43 =>
  intro w_ hS_
  skip
  go_simp
  try with_reducible rfl
 simp only [Act.put, List.getElem_toArray, List.getElem_cons_succ, List.getElem_cons_zero, List.setIfInBounds_toArray, List.set_cons_succ, List.set_cons_zero]
 refine wpAnyH_take (i := 44) (v := ?v44) rfl (by kernel_rfl) (by kernel_rfl) (by kernel_rfl) (fun _ _ _ h => h) (Or.inl ⟨by rfl, ?y44⟩) hS0 ?r44
 case y44 =>
  intro w_ hS_
  skip
  go_simp
  try with_reducible rfl
 simp only [Act.put, List.getElem_toArray, List.getElem_cons_succ, List.getElem_cons_zero, List.setIfInBounds_toArray, List.set_cons_succ, List.set_cons_zero]
 refine wpAnyH_take (i := 45) (v := ?v45) rfl (by kernel_rfl) (by kernel_rfl) (by kernel_rfl) (fun _ _ _ h => h) (Or.inl ⟨by rfl, ?y45⟩) hS0 ?r45
 case y45 =>
  intro w_ hS_
  skip
  go_simp
  try with_reducible rfl
 simp only [Act.put, List.getElem_toArray, List.getElem_cons_succ, List.getElem_cons_zero, List.setIfInBounds_toArray, List.set_cons_succ, List.set_cons_zero]
 refine wpAnyH_take (i := 46) (v := ?v46) rfl (by kernel_rfl) (by kernel_rfl) (by kernel_rfl) (fun _ _ _ h => h) (Or.inl ⟨by rfl, ?y46⟩) hS0 ?r46
 case y46 =>
  intro w_ hS_
  skip
  go_simp
  try with_reducible rfl
 simp only [Act.put, List.getElem_toArray, List.getElem_cons_succ, List.getElem_cons_zero, List.setIfInBounds_toArray, List.set_cons_succ, List.set_cons_zero]
 refine wpAnyH_done (by kernel_rfl) ?_ _
 refine NoPanic.normal ?_
 go_wp2
 go_ret
 refine ⟨congrArg Ending.returned (congrArg (Value.int IntKind.u64) (?_ : (_ : Int) = _)), hbd⟩
 clear hS hS0 hbd
 rw [show IntKind.wrap .u64 (x0 : Int) = (x0 : Int) from u64_wrap_id _ (by omega) (by omega)]
 rw [show IntKind.wrap .u64 (x1 : Int) = (x1 : Int) from u64_wrap_id _ (by omega) (by omega)]
 rw [show IntKind.wrap .u64 (x2 : Int) = (x2 : Int) from u64_wrap_id _ (by omega) (by omega)]
 rw [show IntKind.wrap .u64 (x3 : Int) = (x3 : Int) from u64_wrap_id _ (by omega) (by omega)]
 rw [show IntKind.wrap .u64 (x4 : Int) = (x4 : Int) from u64_wrap_id _ (by omega) (by omega)]
 rw [show IntKind.wrap .u64 (x5 : Int) = (x5 : Int) from u64_wrap_id _ (by omega) (by omega)]
 rw [show IntKind.wrap .u64 (x6 : Int) = (x6 : Int) from u64_wrap_id _ (by omega) (by omega)]
 rw [show IntKind.wrap .u64 (x7 : Int) = (x7 : Int) from u64_wrap_id _ (by omega) (by omega)]
 rw [show IntKind.wrap .u64 ((x1 : Int) * 256) = (x1 : Int) * 256 from u64_wrap_id _ (by omega) (by omega)]
 rw [show IntKind.wrap .u64 ((x2 : Int) * 65536) = (x2 : Int) * 65536 from u64_wrap_id _ (by omega) (by omega)]
 rw [show IntKind.wrap .u64 ((x3 : Int) * 16777216) = (x3 : Int) * 16777216 from u64_wrap_id _ (by omega) (by omega)]
 rw [show IntKind.wrap .u64 ((x4 : Int) * 4294967296) = (x4 : Int) * 4294967296 from u64_wrap_id _ (by omega) (by omega)]
 rw [show IntKind.wrap .u64 ((x5 : Int) * 1099511627776) = (x5 : Int) * 1099511627776 from u64_wrap_id _ (by omega) (by omega)]
 rw [show IntKind.wrap .u64 ((x6 : Int) * 281474976710656) = (x6 : Int) * 281474976710656 from u64_wrap_id _ (by omega) (by omega)]
 rw [show IntKind.wrap .u64 ((x7 : Int) * 72057594037927936) = (x7 : Int) * 72057594037927936 from u64_wrap_id _ (by omega) (by omega)]
 rw [show bits .or .u64 ((x0 : Int)) ((x1 : Int) * 256) = (x0 : Int) + (x1 : Int) * 256 by apply u64_or8 <;> omega]
 rw [show bits .or .u64 ((x0 : Int) + (x1 : Int) * 256) ((x2 : Int) * 65536) = (x0 : Int) + (x1 : Int) * 256 + (x2 : Int) * 65536 by apply u64_or16 <;> omega]
 rw [show bits .or .u64 ((x0 : Int) + (x1 : Int) * 256 + (x2 : Int) * 65536) ((x3 : Int) * 16777216) = (x0 : Int) + (x1 : Int) * 256 + (x2 : Int) * 65536 + (x3 : Int) * 16777216 by apply u64_or24 <;> omega]
 rw [show bits .or .u64 ((x0 : Int) + (x1 : Int) * 256 + (x2 : Int) * 65536 + (x3 : Int) * 16777216) ((x4 : Int) * 4294967296) = (x0 : Int) + (x1 : Int) * 256 + (x2 : Int) * 65536 + (x3 : Int) * 16777216 + (x4 : Int) * 4294967296 by apply u64_or32 <;> omega]
 rw [show bits .or .u64 ((x0 : Int) + (x1 : Int) * 256 + (x2 : Int) * 65536 + (x3 : Int) * 16777216 + (x4 : Int) * 4294967296) ((x5 : Int) * 1099511627776) = (x0 : Int) + (x1 : Int) * 256 + (x2 : Int) * 65536 + (x3 : Int) * 16777216 + (x4 : Int) * 4294967296 + (x5 : Int) * 1099511627776 by apply u64_or40 <;> omega]
 rw [show bits .or .u64 ((x0 : Int) + (x1 : Int) * 256 + (x2 : Int) * 65536 + (x3 : Int) * 16777216 + (x4 : Int) * 4294967296 + (x5 : Int) * 1099511627776) ((x6 : Int) * 281474976710656) = (x0 : Int) + (x1 : Int) * 256 + (x2 : Int) * 65536 + (x3 : Int) * 16777216 + (x4 : Int) * 4294967296 + (x5 : Int) * 1099511627776 + (x6 : Int) * 281474976710656 by apply u64_or48 <;> omega]
 rw [show bits .or .u64 ((x0 : Int) + (x1 : Int) * 256 + (x2 : Int) * 65536 + (x3 : Int) * 16777216 + (x4 : Int) * 4294967296 + (x5 : Int) * 1099511627776 + (x6 : Int) * 281474976710656) ((x7 : Int) * 72057594037927936) = (x0 : Int) + (x1 : Int) * 256 + (x2 : Int) * 65536 + (x3 : Int) * 16777216 + (x4 : Int) * 4294967296 + (x5 : Int) * 1099511627776 + (x6 : Int) * 281474976710656 + (x7 : Int) * 72057594037927936 by apply u64_or56 <;> omega]
 clear q0 q1 q2 q3 q4 q5 q6 q7 p0 p1 p2 p3 p4 p5 p6 p7 h0 h1 h2 h3 h4 h5 h6 h7 hn
 omega
end Go.Proofs.YtalgcjkiajojoaaGreatDoor
namespace Go.Proofs.YtalgcjkiajojoaaGreatDoor
set_option maxRecDepth 100000
open Go Go.RowKit Go.Sort
attribute [local go_sem] setCell_drewN alloc_drewN
def vlg : List VT → Int → Int
 | [], l => l
 | .mk _ d ps :: xs, l => if 0 ≤ l then vlg xs (vlg ps (l - 1 - ((d.length / 64 : Nat) : Int))) else l
def vlf (X : VT) (l : Int) : Int := vlg X.parts (l - 1 - ((X.dat.length / 64 : Nat) : Int))
theorem vlg_cons (x : VT) (xs : List VT) (l : Int) : vlg (x :: xs) l = if 0 ≤ l then vlg xs (vlf x l) else l := by
 cases x
 rw [vlg]
 rfl
theorem vlg_neg {ps : List VT} {l : Int} (h : l < 0) : vlg ps l = l := by
 cases ps with
 | nil => rw [vlg]
 | cons x xs => rw [vlg_cons, if_neg (by omega)]
theorem nm_dat {X : VT} (h : NmT X) : X.dat.length ≤ 140737488351232 ∧ ∀ p ∈ X.parts, NmT p := by
 cases h with
 | mk n d ps hn hd h => exact ⟨hd, h⟩
theorem vlg_bd : ∀ (ps : List VT) (l : Int), (∀ p ∈ ps, NmT p) → -4398046511104 ≤ l → l ≤ 10000 → -4398046511104 ≤ vlg ps l ∧ vlg ps l ≤ 10000
 | [], l, _, h1, h2 => by rw [vlg]; exact ⟨h1, h2⟩
 | .mk n d ps :: xs, l, h, h1, h2 => by
  have hx := nm_dat (h (.mk n d ps) (by simp))
  have hd : d.length ≤ 140737488351232 := hx.1
  rw [vlg]
  by_cases h0 : 0 ≤ l
  ·rw [if_pos h0]
   obtain ⟨b1, b2⟩ := vlg_bd ps (l - 1 - ((d.length / 64 : Nat) : Int)) hx.2 (by omega) (by omega)
   exact vlg_bd xs _ (fun p hp => h p (by simp [hp])) b1 b2
  ·rw [if_neg h0]
   exact ⟨h1, h2⟩
set_option maxRecDepth 100000 in
set_option maxHeartbeats 8000000 in
theorem a_valueLeft {W : World} {S : Nat → Prop} {x : VR} {X : VT} (h : VtM W S x X) : ∀ (w : World) (l : Int), Below W.heap.size W w → 0 ≤ l → l ≤ 10000 → Calls Tryz.prog 17 #[.agg (vrv x), .int .i64 l] w fun e w' => e = .returned (.int .i64 (vlf X l)) ∧ Below w.heap.size w w' := by
 induction h with
 | mk x bs xs ps hn hdl hbl hd hdc hds hpl hxl hpc hpm hps hP hs ih =>
  intro w l hw h0 h1
  have hnp : ∀ p ∈ ps, NmT p := fun p hp => by
   obtain ⟨i, hi, e⟩ := List.getElem_of_mem hp
   have := (hs i hi).nm
   rw [gvt, List.getD_eq_getElem?_getD, List.getElem?_eq_getElem hi] at this
   rw [← e]
   exact this
  have hpsb : ∀ i, i < ps.length → (∀ b off, x.pa = some ⟨b, off, none⟩ → b < W.heap.size) := fun i hi b off e => (hps _ ((lv_pos (by omega)).trans e)).2
  clear hs hps hds hd
  obtain ⟨xn, xda, xdl, xdc, xpa, xpl, xpc⟩ := x
  simp only at hn hdl hdc hpl hpc hP hpsb
  subst hpl
  unfold vrv vrw
  obtain ⟨R, hR⟩ : ∃ R, vlf (.mk xn bs ps) l = R := ⟨_, rfl⟩
  rw [hR]
  have eq64 : ((xdl / 64 : Nat) : Int) = (xdl : Int) / 64 := by omega
  have eR : R = vlg (ps.drop 0) (l - 1 - (xdl : Int) / 64) := by rw [← eq64, ← hR, hdl]; rfl
  have bd0 : -4398046511104 ≤ l - 1 - (xdl : Int) / 64 ∧ l - 1 - (xdl : Int) / 64 ≤ 10000 := by omega
  have q1 : IntKind.wrap .i64 (l - 1) = l - 1 := by rw [IntKind.wrap_i64]; omega
  have q2 : IntKind.wrap .i64 (l - 1 - (xdl : Int) / 64) = l - 1 - (xdl : Int) / 64 := by rw [IntKind.wrap_i64]; omega
  have q3 : IntKind.wrap .i64 ((xdl : Int) / 64) = (xdl : Int) / 64 := by rw [IntKind.wrap_i64]; omega
  clear hdl eq64 hbl
  have hb : Below w.heap.size w (w.alloc (.cells #[.int .u64 (xn : Int), .slice xda xdl xdc, .slice xpa ps.length xpc] 27)) := (Below.refl _ _).alloc (Nat.le_refl _) _
  have r0 := hp1_0 w (.cells #[.int .u64 (xn : Int), .slice xda xdl xdc, .slice xpa ps.length xpc] 27)
  have HP := hide hP
  have HI := hide ih
  replace eR := hide eR
  clear hR hP ih
  go_enter Tryz.func17, Tryz.ntmps17
  go_upto_region 1 with (fail)
  generalize w.alloc (.cells #[.int .u64 (xn : Int), .slice xda xdl xdc, .slice xpa ps.length xpc] 27) = w0 at *
  have c1 := cell_of_row _ _ 1 _ _ _ r0
  go_wp2_with (fail)
  clear c1
  go_loopw [1, 5] (fun lv i wr => ∃ (k : Nat) (l2 : Int), k ≤ ps.length ∧ i = .int .i64 k ∧ lv = .int .i64 l2 ∧ R = vlg (ps.drop k) l2 ∧ -4398046511104 ≤ l2 ∧ l2 ≤ 10000 ∧ Below w0.heap.size w0 wr) (fun _ i _ => ps.length - (intOf i).toNat)
  case atStart => exact ⟨0, _, by omega, rfl, rfl, eR.out, bd0.1, bd0.2, Below.refl _ _⟩
  case round =>
   clear eR bd0 q1 q2 q3
   obtain ⟨k, l2, hk, rfl, rfl, eR, b1, b2, hby⟩ := hrel
   have rr := keep hby r0
   have c2 := cell_of_row _ _ 2 _ _ _ rr
   have hbw := Below.after hb hby
   by_cases hlt : k < ps.length
   ·have hd2 : decide ((k : Int) < (ps.length : Int)) = true := by simp; omega
    by_cases hl0 : 0 ≤ l2
    ·have hd3 : decide (l2 ≥ 0) = true := by simpa using hl0
     obtain ⟨b, off, hxe, hra⟩ := HP.out k hlt
     subst hxe
     have hbl : b < W.heap.size := hpsb k hlt _ _ rfl
     have hpw := rangeS_keep2 hra (hw.trans (hbw.mono hw.size)) hbl
     rw [vdrop ps k hlt, vlg_cons, if_pos hl0] at eR
     have hbd := vlg_bd [gvt ps k] l2 (fun p hp => by
      have : p = gvt ps k := by simpa using hp
      subst this
      exact hnp _ (by rw [gvt, List.getD_eq_getElem?_getD, List.getElem?_eq_getElem hlt]; exact List.getElem_mem hlt)) b1 b2
     rw [vlg_cons, if_pos hl0, vlg] at hbd
     have cI := HI.out k hlt wr l2 (hw.trans (hbw.mono hw.size)) hl0 b2
     generalize vlf (gvt ps k) l2 = L3 at *
     generalize gx xs k = z at *
     obtain ⟨zn, zda, zdl, zdc, zpa, zpl, zpc⟩ := z
     unfold vrv vrw at *
     replace cI := hide cI
     replace eR := hide eR
     clear hra HP HI
     go_wp2_with (first | (refine wpList_load_mid rfl 27 _ rfl b (off + k * 3) rfl _ _ hpw Tryz.underlying27 rfl infoV ?_) | fail)
     refine cI.out.mono ?_
     rintro e_ w3 ⟨rfl, hb3⟩
     replace hby := Below.after hby hb3
     clear cI hb3 hpw c2 rr
     go_wp2_with (fail)
     refine ⟨⟨k + 1, L3, by omega, by go_num, rfl, eR.out, hbd.1, hbd.2, hby⟩, ?_⟩
     simp [intOf]; omega
    ·have hd3 : decide (l2 ≥ 0) = false := by simpa using hl0
     rw [vlg_neg (by omega)] at eR
     replace eR := hide eR
     clear HP HI
     go_wp2_with (fail)
     go_ret
     exact ⟨by rw [eR.out]; rfl, hbw⟩
   ·have hd2 : decide ((k : Int) < (ps.length : Int)) = false := by simp; omega
    rw [List.drop_of_length_le (by omega), vlg] at eR
    replace eR := hide eR
    clear HP HI
    go_wp2_with (fail)
    go_ret
    exact ⟨by rw [eR.out]; rfl, hbw⟩
def bgV (X : VT) : Bool := decide (vlf X 10000 < 0)
set_option maxRecDepth 100000 in
set_option maxHeartbeats 8000000 in
theorem a_bigValue {S : Nat → Prop} {x : VR} {X : VT} (w : World) (h : VtM w S x X) : Calls Tryz.prog 7 #[.agg (vrv x)] w fun e w' => e = .returned (.bool (bgV X)) ∧ Below w.heap.size w w' := by
 have cV := fun V hV => a_valueLeft h V 10000 hV (by decide) (by decide)
 clear h
 unfold bgV
 generalize vlf X 10000 = L at *
 obtain ⟨zn, zda, zdl, zdc, zpa, zpl, zpc⟩ := x
 unfold vrv vrw at *
 have hb : Below w.heap.size w (w.alloc (.cells #[.int .u64 (zn : Int), .slice zda zdl zdc, .slice zpa zpl zpc] 27)) := (Below.refl _ _).alloc (Nat.le_refl _) _
 have r0 := hp1_0 w (.cells #[.int .u64 (zn : Int), .slice zda zdl zdc, .slice zpa zpl zpc] 27)
 have cV1 := cV _ hb
 clear cV
 go_enter Tryz.func7, Tryz.ntmps7
 go_upto_region 1 with (fail)
 generalize w.alloc (.cells #[.int .u64 (zn : Int), .slice zda zdl zdc, .slice zpa zpl zpc] 27) = w0 at *
 go_wp2_with (first | (refine wpList_load_want rfl 27 _ rfl w.heap.size rfl 27 #[.int .u64 (zn : Int), .slice zda zdl zdc, .slice zpa zpl zpc] (0, 0) _ r0 Tryz.underlying27 rfl infoV ?_) | fail)
 refine cV1.mono ?_
 rintro e_ w1 ⟨rfl, hb1⟩
 replace hb := Below.after hb hb1
 go_wp2_with (fail)
 go_ret
 exact ⟨rfl, hb⟩
end Go.Proofs.YtalgcjkiajojoaaGreatDoor

