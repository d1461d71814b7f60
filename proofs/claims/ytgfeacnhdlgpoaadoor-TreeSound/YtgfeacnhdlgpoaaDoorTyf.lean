import Derived.Test.YtgfeacnhdlgpoaaDoorProg
import Derived.WalkKit
import Derived.WalkSpells
import Derived.WalkLawsBesides
import Derived.Lib.QuietBelow
import Derived.BigQuiet
import Derived.OrdersHeld
import Derived.OwnWalk
import Derived.Deep.RegionHeld3
import Derived.Deep.Cut
import Derived.Deep.CutRange
import Derived.Test.YtgfeacnhdlgpoaaDoorTye
import Derived.Test.YtgfeacnhdlgpoaaDoorTrx
namespace Go.Proofs.YtgfeacnhdlgpoaaDoor
set_option maxRecDepth 100000
open Go Go.RowKit Go.Sort
attribute [local go_sem] setCell_drewN alloc_drewN
theorem txt_ok {a b : List Int} (ha : Ky a) (hb : Ky b) : (1 :: (a ++ b) : List Int).length ≤ 1000 ∧ ∀ z ∈ (1 :: (a ++ b) : List Int), 0 ≤ z ∧ z < 256 := ⟨by simp [ha.1, hb.1], nd_bd ha.2 hb.2⟩
theorem Tok.app {a b : List (List Int)} (h : Tok a) (h2 : Tok b) : Tok (a ++ b) := fun t ht => (List.mem_append.1 ht).elim (h t) (h2 t)
theorem Tok.nil : Tok [] := fun t ht => by cases ht
theorem Tok.one {t : List Int} (h : t.length ≤ 1000 ∧ ∀ z ∈ t, 0 ≤ z ∧ z < 256) : Tok [t] := fun x hx => by rw [List.mem_singleton.1 hx]; exact h
theorem txs_ok : ∀ (n : Nat) (l : List (List Int)), l.length = n → Kok l → Tok (txs sumL l) := by
  intro n
  induction n using Nat.strongRecOn with
  | ind n ih =>
    rintro l rfl hl
    by_cases h : l.length < 2
    · rw [txs_one sumL h]; exact Tok.nil
    · have a := ct_lt h
      have b := ct_pos l.length
      rw [txs_two sumL h]
      exact ((ih _ a _ (by rw [List.length_take]; omega) (hl.take _)).app (ih (l.length - ctN l.length) (by omega) _ (by rw [List.length_drop]) (hl.drop _))).app (Tok.one (txt_ok (Ky.rt (hl.take _)) (Ky.rt (hl.drop _))))
theorem last_ok {p : List (List Int)} (hp : Kok p) (h0 : 0 < p.length) : Ky (p.getLastD []) := by
  have e : p.getD (p.length - 1) [] = p.getLastD [] := by rw [List.getLastD_eq_getLast?, List.getLast?_eq_getElem?, List.getD_eq_getElem?_getD]
  rw [← e]; exact hp.at (by omega)
theorem dl_ok {p : List (List Int)} (hp : Kok p) : Kok p.dropLast := fun k hk => hp k (List.dropLast_subset _ hk)
theorem mtx_ok : ∀ (n i : Nat) (x : List Int) (p : List (List Int)), Ky x → Kok p → p.length = lng n i → Tok (mtx sumL n i x p) := by
  intro n
  induction n using Nat.strongRecOn with
  | ind n ih =>
    intro i x p hx hp hl
    by_cases h : n < 2
    · rw [mtx_one sumL h]; exact Tok.nil
    · have a := ct_lt h
      have b := ct_pos n
      have hd : p.dropLast.length = p.length - 1 := List.length_dropLast
      by_cases hi : i < ctN n
      · rw [lng_lo h hi] at hl
        rw [mtx_lo sumL h hi]
        exact (ih _ a i x _ hx (dl_ok hp) (by omega)).app (Tok.one (txt_ok (Ky.mde hx) (last_ok hp (by omega))))
      · rw [lng_hi h hi] at hl
        rw [mtx_hi sumL h hi]
        exact (ih (n - ctN n) (by omega) (i - ctN n) x _ hx (dl_ok hp) (by omega)).app (Tok.one (txt_ok (last_ok hp (by omega)) (Ky.mde hx)))
theorem btx_ok (o : Bool) : ∀ (n m : Nat) (wh : Bool) (x : List Int) (p : List (List Int)), Ky x → Kok p → 1 ≤ m → p.length = kys n m wh → Tok (btx sumL o m n wh x p) := by
  intro n
  induction n using Nat.strongRecOn with
  | ind n ih =>
    intro m wh x p hx hp hm hl
    by_cases h : n ≤ m
    · rw [btx_end sumL h]; exact Tok.nil
    · have a := ct_lt (n := n) (by omega)
      have b := ct_pos n
      have hd : p.dropLast.length = p.length - 1 := List.length_dropLast
      by_cases hi : m ≤ ctN n
      · rw [kys_lo hm (by omega) hi] at hl
        obtain ⟨kA, kB⟩ := Ky.bde (n := ctN n) (m := m) (wh := wh) hx (dl_ok hp) hm (by omega)
        rw [btx_lo sumL hm (by omega) hi]
        refine (ih _ a m wh x _ hx (dl_ok hp) hm (by omega)).app ?_
        cases o with
        | true => exact Tok.nil
        | false => exact Tok.one (txt_ok kB (last_ok hp (by omega)))
      · rw [kys_hi hm (by omega) hi] at hl
        obtain ⟨kA, kB⟩ := Ky.bde (n := n - ctN n) (m := m - ctN n) (wh := false) hx (dl_ok hp) (by omega) (by omega)
        rw [btx_hi sumL hm (by omega) hi]
        refine (ih (n - ctN n) (by omega) (m - ctN n) false x _ hx (dl_ok hp) (by omega) (by omega)).app (Tok.one ?_)
        cases o with
        | true => exact txt_ok (last_ok hp (by omega)) kA
        | false => exact txt_ok (last_ok hp (by omega)) kB
theorem inE_zero {r x : List Int} {n i : Int} {p : List (List Int)} (h : inE r n i x p = 0) : 1 ≤ n ∧ n ≤ 65536 ∧ 0 ≤ i ∧ i < n ∧ p.length = lng n.toNat i.toNat ∧ mde sumL n.toNat i.toNat x p = r := by
  unfold inE at h
  by_cases hb : n < 1 ∨ 65536 < n ∨ i < 0 ∨ n ≤ i
  · rw [if_pos hb] at h; omega
  · rw [if_neg hb] at h
    by_cases hc : p.length = lng n.toNat i.toNat ∧ mde sumL n.toNat i.toNat x p = r
    · exact ⟨by omega, by omega, by omega, by omega, hc⟩
    · rw [if_neg hc] at h; omega
theorem grE_zero {o r : List Int} {m n : Int} {p : List (List Int)} (h : grE o m r n p = 0) : 0 ≤ n ∧ n ≤ 65536 ∧ 0 ≤ m ∧ m ≤ n ∧ ((m = 0 ∧ o = sumL []) ∨ (1 ≤ m ∧ p.length = kys n.toNat m.toNat true ∧ (bde sumL m.toNat n.toNat true o p).1 = o ∧ (bde sumL m.toNat n.toNat true o p).2 = r)) := by
  unfold grE at h
  by_cases hb : n < 0 ∨ 65536 < n ∨ m < 0 ∨ n < m
  · rw [if_pos hb] at h; omega
  · rw [if_neg hb] at h
    refine ⟨by omega, by omega, by omega, by omega, ?_⟩
    by_cases h0 : m = 0
    · rw [if_pos h0] at h
      by_cases hc : p.length = 0 ∧ o = sumL [] ∧ (n = 0 → r = sumL [])
      · exact .inl ⟨h0, hc.2.1⟩
      · rw [if_neg hc] at h; omega
    · rw [if_neg h0] at h
      by_cases hc : p.length = kys n.toNat m.toNat true ∧ (bde sumL m.toNat n.toNat true o p).1 = o ∧ (bde sumL m.toNat n.toNat true o p).2 = r
      · exact .inr ⟨by omega, hc⟩
      · rw [if_neg hc] at h; omega
theorem sound_any (l P Q : List (List Int)) (pr LF OD cr : List Int) (pn ai mi cn_ : Int) (w : World) (v u q : Value) (kpr : Ky pr) (kLF : Ky LF) (kOD : Ky OD) (kcr : Ky cr) (hS : Sta w) (hK : Kon w) (hL : Ksl w v l) (hP : Ksl w u P) (hQ : Ksl w q Q) (hlL : l.length ≤ 4398046510990) (hlP : P.length ≤ 4398046510990) (hlQ : Q.length ≤ 4398046510990) : Calls Tryd.prog 9 #[v, .agg (plrow pr LF pn ai u), .agg (plrow OD cr mi cn_ q)] w fun e w' => e = .returned (.bool true) ∧ Below w.heap.size w w' := by
  obtain ⟨vo, vc, rfl, hvc, hz⟩ := hL.slc
  obtain ⟨po, pc, rfl, _, _⟩ := hP.slc
  obtain ⟨qo, qc, rfl, _, _⟩ := hQ.slc
  have kR := Ky.rt hL.ok
  by_cases hbig : 65536 < l.length
  · exact sound_big l P Q pn ai mi cn_ kR.1 kLF.1 kOD.1 kpr.1 kcr.1 w vo po qo vc pc qc hL hP hQ hlL hlP hlQ (fun W hW => r_Root _ _ W _ rfl (hL.keep hW)) (fun W hW _ hu => a_Root _ _ W _ rfl (hS.below hW) (hK.below hW) hu) hbig
  have hle : l.length ≤ 65536 := by omega
  have hTXl : (txs sumL l).length ≤ 70000 := Nat.le_trans (txs_len sumL _ _ rfl) (by omega)
  have hTXo := txs_ok _ l rfl hL.ok
  have kLI : ∀ (h : inE (rt sumL l) (l.length : Int) ai LF P = 0), ai = (ai.toNat : Int) ∧ ai.toNat < l.length ∧ P.length = lng l.length ai.toNat ∧ mde sumL l.length ai.toNat LF P = rt sumL l := fun h => by
    obtain ⟨h1, h2, h3, h4, h5, h6⟩ := inE_zero h
    rw [Int.toNat_natCast] at h5 h6
    exact ⟨by omega, by omega, h5, h6⟩
  have kGM : ∀ (h : grE OD mi (rt sumL l) (l.length : Int) Q = 0), mi = (mi.toNat : Int) ∧ mi.toNat ≤ l.length ∧ ((mi.toNat = 0 ∧ OD = sumL []) ∨ (1 ≤ mi.toNat ∧ Q.length = kys l.length mi.toNat true ∧ (bde sumL mi.toNat l.length true OD Q).1 = OD ∧ (bde sumL mi.toNat l.length true OD Q).2 = rt sumL l)) := fun h => by
    obtain ⟨h1, h2, h3, h4, h5⟩ := grE_zero h
    rw [Int.toNat_natCast] at h5
    refine ⟨by omega, by omega, ?_⟩
    rcases h5 with ⟨e, h⟩ | ⟨e, h⟩
    · exact .inl ⟨by omega, h⟩
    · exact .inr ⟨by omega, h⟩
  have kO : ∀ (M : Nat), Ky (rt sumL (l.take M)) := fun M => Ky.rt (hL.ok.take M)
  have hne : ∀ (M : Nat), M ≤ l.length → OD ≠ rt sumL (l.take M) → ((M = 0 ∧ OD = sumL []) ∨ (1 ≤ M ∧ Q.length = kys l.length M true ∧ (bde sumL M l.length true OD Q).1 = OD ∧ (bde sumL M l.length true OD Q).2 = rt sumL l)) → M ≠ 0 ∧ M ≠ l.length ∧ 1 ≤ M ∧ Q.length = kys l.length M true ∧ (bde sumL M l.length true OD Q).1 = OD ∧ (bde sumL M l.length true OD Q).2 = rt sumL l := fun M hM hd hc => by
    rcases hc with ⟨e, h⟩ | ⟨e, h⟩
    · subst e; rw [List.take_zero, rt_nil] at hd; exact absurd h hd
    · refine ⟨by omega, fun e2 => ?_, e, h⟩
      subst e2
      rw [List.take_length] at hd
      rw [bde_end sumL (Nat.le_refl _)] at h
      exact hd h.2.2
  have dz : ∀ z : Int, (z == 0) = true → z = 0 := fun z h => by simpa using h
  have mle : (mtx sumL l.length ai.toNat LF P).length ≤ 70000 := by rw [mtx_len]; exact Nat.le_trans (lng_lt _ _) (by omega)
  have ble : ∀ o, 1 ≤ mi.toNat → (btx sumL o mi.toNat l.length true OD Q).length ≤ 70000 := fun o h => Nat.le_trans (btx_len sumL o _ _ _ _ _ h) (by omega)
  refine sound_walk l P Q pn ai mi cn_ kR.1 kLF.1 kOD.1 kpr.1 kcr.1 w vo po qo vc pc qc hL hP hQ hlL hlP hlQ (fun W hW => r_Root _ _ W _ rfl (hL.keep hW)) (fun W hW _ hu => a_Root _ _ W _ rfl (hS.below hW) (hK.below hW) hu) hle hz hvc (E1 := inE (rt sumL l) (l.length : Int) ai LF P) (E2 := grE OD mi (rt sumL l) (l.length : Int) Q) (eqf := decide (LF = l.getD ai.toNat [])) (eqo := decide (OD = rt sumL (l.take mi.toNat))) (A := mde sumL l.length ai.toNat LF P) (A2 := if 1 ≤ mi.toNat ∧ Q.length = kys l.length mi.toNat true then (bde sumL mi.toNat l.length true OD Q).1 else zr 32) (B2 := if 1 ≤ mi.toNat ∧ Q.length = kys l.length mi.toNat true then (bde sumL mi.toNat l.length true OD Q).2 else zr 32) (RM := rt sumL (l.take mi.toNat)) (T1 := mtx sumL l.length ai.toNat LF P) (TX := txs sumL l) (S2 := if 1 ≤ mi.toNat then btx sumL true mi.toNat l.length true OD Q else []) (T2 := if 1 ≤ mi.toNat then btx sumL false mi.toNat l.length true OD Q else []) (P0 := pth sumL l 0) ai.toNat mi.toNat (Ky.mde kLF).1 ?_ ?_ mle hTXl ?_ ?_ (pth_ok _ l 0 rfl hL.ok) (Nat.le_trans (pth_le hle) (by omega)) rfl rfl ?_ ?_ (fun W hW _ hu => a_Included _ _ _ _ P W _ kR kLF (hS.below hW) (hK.below hW) hu) ?_ ?_ (fun W hW => r_Texts _ l W _ rfl hle (hL.keep hW)) ?_ (fun W hW _ hu => a_Grown _ _ _ _ Q W _ kOD kR (hS.below hW) (hK.below hW) hu) ?_ ?_ ?_ ?_ ?_ (fun h0 W hW => r_path _ l 0 W _ rfl h0 (hL.keep hW)) ?_
  · by_cases h : 1 ≤ mi.toNat ∧ Q.length = kys l.length mi.toNat true
    · rw [if_pos h]; exact (Ky.bde kOD hQ.ok h.1 h.2).1.1
    · rw [if_neg h]; exact zr_len 32
  · by_cases h : 1 ≤ mi.toNat ∧ Q.length = kys l.length mi.toNat true
    · rw [if_pos h]; exact (Ky.bde kOD hQ.ok h.1 h.2).2.1
    · rw [if_neg h]; exact zr_len 32
  · by_cases h : 1 ≤ mi.toNat
    · rw [if_pos h]; exact ble _ h
    · rw [if_neg h]; simp
  · by_cases h : 1 ≤ mi.toNat
    · rw [if_pos h]; exact ble _ h
    · rw [if_neg h]; simp
  · intro h
    obtain ⟨h1, h2, _⟩ := kLI (dz _ h)
    exact ⟨h1, h2⟩
  · intro h
    obtain ⟨h1, h2, _⟩ := kGM (dz _ h)
    exact ⟨h1, h2⟩
  · intro h
    obtain ⟨h1, h2, _⟩ := kLI (dz _ h)
    exact eqK _ _ kLF.1 (hL.ok.at h2).1
  · intro h _ W hW
    obtain ⟨h1, h2, h3, h4⟩ := kLI (dz _ h)
    exact r_Made _ _ LF P W _ (by omega) hle h2 kLF h3 (hP.keep hW)
  · intro h hf W hW u b hT
    obtain ⟨h1, h2, h3, h4⟩ := kLI (dz _ h)
    have hc := sound_in sumL sumL_len l.length l ai.toNat LF P rfl hL.ok.len kLF.1 hP.ok.len h2 h3 h4 (of_decide_eq_false hf)
    exact r_Clash _ (hide (clp_of hc)) ((mtx_ok _ _ _ _ kLF hP.ok h3).app hTXo) (by rw [List.length_append]; omega) W b u hT
  · intro h W hW
    obtain ⟨h1, h2, _⟩ := kGM (dz _ h)
    exact r_Root _ _ W _ rfl ((hL.keep hW).head h2)
  · intro h
    exact eqK _ _ kOD.1 (kO _).1
  · intro h hf
    obtain ⟨h1, h2, h3⟩ := kGM (dz _ h)
    have := hne _ h2 (of_decide_eq_false hf) h3
    exact ⟨this.1, this.2.1⟩
  · intro h hf W hW
    obtain ⟨h1, h2, h3⟩ := kGM (dz _ h)
    obtain ⟨n1, n2, n3, n4, n5, n6⟩ := hne _ h2 (of_decide_eq_false hf) h3
    rw [if_pos ⟨n3, n4⟩, if_pos ⟨n3, n4⟩, if_pos n3, if_pos n3]
    exact r_Both _ _ true OD Q W _ n3 h2 hle kOD n4 (hQ.keep hW)
  · intro h hf W hW u b hT
    obtain ⟨h1, h2, h3⟩ := kGM (dz _ h)
    obtain ⟨n1, n2, n3, n4, n5, n6⟩ := hne _ h2 (of_decide_eq_false hf) h3
    rw [if_pos n3, if_pos n3] at hT
    have hc := sound_gr sumL sumL_len l.length l mi.toNat true OD Q rfl hL.ok.len kOD.1 hQ.ok.len n3 h2 n4 n6 (by rw [n5]; exact of_decide_eq_false hf)
    exact r_Clash _ (hide (clp_of hc)) (((btx_ok true _ _ _ _ _ kOD hQ.ok n3 n4).app (btx_ok false _ _ _ _ _ kOD hQ.ok n3 n4)).app hTXo) (by rw [List.length_append, List.length_append]; have := ble true n3; have := ble false n3; omega) W b u hT
  · intro h0 W hW u hu
    have h := a_Included (rt sumL l) (l.getD 0 []) (l.length : Int) ((0 : Nat) : Int) _ W u kR (hL.ok.at h0) (hS.below hW) (hK.below hW) hu
    have e := inE_pth (l := l) h0 (Nat.le_refl _) hle
    rw [List.take_length] at e
    rw [e] at h
    exact h
end Go.Proofs.YtgfeacnhdlgpoaaDoor
