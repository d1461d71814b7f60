import Derived.Test.YtmiljapieehmgaaProg
import Derived.WalkKit
import Derived.WalkSpells
import Derived.WalkLawsBesides
import Derived.Lib.QuietBelow
import Derived.Laws.BitsAllLaws
import Derived.BigQuiet
import Derived.WalkMore
import Derived.Test.YtmiljapieehmgaaKit
import Derived.Test.YtmiljapieehmgaaIn
namespace Go.Proofs.Ytmiljapieehmgaa
open Go Go.RowKit Go.Sort
attribute [local go_sem] setCell_drewN alloc_drewN

/-- The number, the greatest byte first, of k of the four. -/
def hnr (d : List B) : Nat → Nat
  | 0 => 0
  | k + 1 => hnr d k * 256 + (gb d (3 - k)).toNat
theorem hnr_cnt (d : List B) : hnr d 4 = cnt d := by
  simp only [hnr, cnt, cnk, Nat.pow_zero, Nat.sub_zero, Nat.sub_self, show 3 - 1 = 2 from rfl, show 3 - 2 = 1 from rfl]
  omega
theorem hnr_lt (d : List B) : ∀ k, hnr d k < 256 ^ k
  | 0 => by simp [hnr]
  | k + 1 => by
    have h := hnr_lt d k
    have h2 := (gb d (3 - k)).isLt
    rw [hnr, Nat.pow_succ]
    omega
theorem hnr_bd (d : List B) (k : Nat) (h : k ≤ 4) : hnr d k ≤ 4294967296 := by
  have h1 := hnr_lt d k
  have h2 : 256 ^ k ≤ 256 ^ 4 := Nat.pow_le_pow_right (by decide) h
  have h3 : (256 : Nat) ^ 4 = 4294967296 := by decide
  omega
theorem cnt_lt (d : List B) : cnt d < 4294967296 := by
  have := cnk_lt d 4
  have h3 : (256 : Nat) ^ 4 = 4294967296 := by decide
  unfold cnt
  omega
theorem bit8 (x : Nat) : (BitVec.ofNat 8 x).toNat = x % 256 := by rw [BitVec.toNat_ofNat]
/-- The four bytes of the number that four bytes say are they. -/
theorem pd4_cnt (d : List B) (h : 4 ≤ d.length) : pd4 (cnt d) = d.take 4 := by
  obtain ⟨a, b, c, e, r, rfl⟩ : ∃ a b c e r, d = a :: b :: c :: e :: r := by
    rcases d with _ | ⟨a, _ | ⟨b, _ | ⟨c, _ | ⟨e, r⟩⟩⟩⟩
    · simp at h
    · simp at h
    · simp at h
    · simp at h
    · exact ⟨a, b, c, e, r, rfl⟩
  have ha := a.isLt
  have hb := b.isLt
  have hc := c.isLt
  have he := e.isLt
  have e1 : cnt (a :: b :: c :: e :: r) = a.toNat + b.toNat * 256 + c.toNat * 65536 + e.toNat * 16777216 := by
    simp only [cnt, cnk, gb, Nat.pow_zero, List.getD_cons_zero, List.getD_cons_succ]
    omega
  rw [e1]
  simp only [pd4, List.take_succ_cons, List.take_zero]
  congr 1
  · apply BitVec.eq_of_toNat_eq; rw [bit8]; omega
  · congr 1
    · apply BitVec.eq_of_toNat_eq; rw [bit8]; omega
    · congr 1
      · apply BitVec.eq_of_toNat_eq; rw [bit8]; omega
      · congr 1
        apply BitVec.eq_of_toNat_eq; rw [bit8]; omega
theorem azr_rep (l : List B) : azr l = true ↔ l = List.replicate l.length 0#8 := by
  unfold azr
  rw [List.all_eq_true, List.eq_replicate_iff]
  simp
/-- A body is what Pad makes of the text in it. -/
theorem upo_pad (v : Nat) (d : List B) (hk : known v = true) (h4 : ¬ d.length < 4) (hn : cnt d ≤ d.length - 4) :
    (bke v (((d.drop 4).take (cnt d)).length : Int) = 0 ∧ pdr v ((d.drop 4).take (cnt d)) = d) ↔ upo v d = true := by
  have hl : ((d.drop 4).take (cnt d)).length = cnt d := by rw [List.length_take, List.length_drop]; omega
  have hp4 := pd4_cnt d (by omega)
  have hbk : bke v (cnt d : Int) = 0 ↔ cnt d ≤ 1048576 := by
    unfold bke
    rw [hk]
    constructor
    · intro h
      by_cases q : (1048576 : Int) < (cnt d : Int)
      · rw [if_pos rfl, if_neg (by omega), if_pos q] at h
        omega
      · omega
    · intro h
      rw [if_pos rfl, if_neg (by omega), if_neg (by omega)]
  have hge := bkd_ge (dg v) (4 + cnt d) (dg_pos v) (dg_le v)
  have hd : d = d.take 4 ++ (d.drop 4).take (cnt d) ++ d.drop (4 + cnt d) := by
    rw [List.append_assoc, ← List.drop_drop, List.take_append_drop, List.take_append_drop]
  have hu : upo v d = true ↔ cnt d ≤ 1048576 ∧ bkd (dg v) (4 + cnt d) = d.length ∧ azr (d.drop (4 + cnt d)) = true := by
    unfold upo
    simp only [Bool.and_eq_true, Bool.not_eq_true', decide_eq_false_iff_not, decide_eq_true_eq, beq_iff_eq]
    constructor
    · rintro ⟨⟨⟨_, h1⟩, h2⟩, h3⟩; exact ⟨h1, h2, h3⟩
    · rintro ⟨h1, h2, h3⟩; exact ⟨⟨⟨h4, h1⟩, h2⟩, h3⟩
  rw [hl, hbk, hu]
  constructor
  · rintro ⟨h1, h2⟩
    rw [pdr, hl, if_pos (hbk.2 h1)] at h2
    have h3 : bkd (dg v) (4 + cnt d) = d.length := by
      have := congrArg List.length h2
      rw [pdb_len _ _ (by rw [hl]; exact hge)] at this
      exact this
    refine ⟨h1, h3, ?_⟩
    rw [pdb, hl, hp4] at h2
    have h5 := h2.trans hd
    have h6 := List.append_cancel_left h5
    rw [azr_rep, ← h6, List.length_replicate]
  · rintro ⟨h1, h2, h3⟩
    refine ⟨h1, ?_⟩
    rw [pdr, hl, if_pos (hbk.2 h1), pdb, hl, hp4]
    conv => rhs; rw [hd]
    congr 1
    rw [azr_rep] at h3
    rw [h3, List.length_drop, h2]
    congr 1
    omega
theorem upo_len {v : Nat} {d : List B} (h : upo v d = true) : ¬ d.length < 4 ∧ cnt d ≤ d.length - 4 := by
  unfold upo at h
  simp only [Bool.and_eq_true, Bool.not_eq_true', decide_eq_false_iff_not, decide_eq_true_eq, beq_iff_eq] at h
  obtain ⟨⟨⟨h1, _⟩, h2⟩, _⟩ := h
  have hge := bkd_ge (dg v) (4 + cnt d) (dg_pos v) (dg_le v)
  exact ⟨h1, by omega⟩
set_option maxRecDepth 100000 in
set_option maxHeartbeats 4000000 in
theorem r_Unpad_aux (ver : Int) (d : List B) (O : Bool) (cc : Nat) (P D : List B) (E : Int) (H : Nat → Nat) (H0 : H 0 = 0) (Hs : ∀ k, H (k + 1) = H k * 256 + (gb d (3 - k)).toNat) (Hb : ∀ k, k ≤ 4 → H k ≤ 4294967296) (H4 : H 4 = cc)
    (hul : O = true → ¬ d.length < 4 ∧ cc ≤ d.length - 4) (hup : ¬ d.length < 4 → cc ≤ d.length - 4 → (((E = 0 ∧ D = d) ↔ O = true) ∧ P = (d.drop 4).take cc ∧ P.length = cc))
    (c1 : Gives 21 #[.int .i64 ver] (.bool true))
    (cP : ∀ (w : World) (dv : Value), BysB w dv P → Calls Try.prog 12 #[.int .i64 ver, dv] w fun e w' => ∃ u, e = .returned (.tuple #[u, .int .i64 E]) ∧ Own w' w.heap.size u D ∧ Below w.heap.size w w')
    (w : World) (dv : Value) (hD : BysB w dv d) (hcap : ∀ a l c, dv = .slice a l c → l ≤ c) : Calls Try.prog 18 #[.int .i64 ver, dv] w fun e w' => ∃ u, e = .returned (.tuple #[u, .int .i64 (if O then 0 else 101)]) ∧ Own w' w.heap.size u (if O then P else []) ∧ Below w.heap.size w w' := by
  obtain ⟨ao, cap, rfl⟩ := hD.form
  replace hcap := hcap _ _ _ rfl
  have hDh := hide (fun V (h : Below w.heap.size w V) => hD.keep h)
  have hdl := hD.2.1
  have hcell := hide (fun j (hj : j < d.length) => hD.cellAt (j := j) hj)
  obtain ⟨U, eU⟩ : ∃ U : Int, U = if O then 0 else 101 := ⟨_, rfl⟩
  obtain ⟨R, eR⟩ : ∃ R : List B, R = if O then P else [] := ⟨_, rfl⟩
  rw [← eU, ← eR]
  replace eU := hide eU
  replace eR := hide eR
  replace hul := hide hul
  replace hup := hide hup
  replace cP := hide cP
  replace Hs := hide Hs
  replace Hb := hide Hb
  replace H4 := hide H4
  replace H0 := hide H0
  clear hD
  go_enter Try.func18, Try.ntmps18
  go_wp2_with (fail)
  refine (c1.at _).mono ?_
  rintro e_ w1 ⟨rfl, hw⟩
  clear c1
  by_cases h4 : d.length < 4
  · have hd : decide ((d.length : Int) < 4) = true := by simp; omega
    have hu : O = false := by
      rcases h : O
      · rfl
      · exact absurd h4 (hul.out h).1
    subst hu
    rw [if_neg Bool.false_ne_true] at eU eR
    go_wp2
    go_ret2
    refine ⟨_, by rw [eU.out]; rfl, ?_, hw⟩
    rw [eR.out]
    exact own_none _ _
  · have hd : decide ((d.length : Int) < 4) = false := by simp; omega
    go_wp2
    go_loopw [6, 7] (fun n i wr => ∃ k : Nat, k ≤ 4 ∧ i = .int .i64 (3 - (k : Int)) ∧ n = .int .i64 (H k : Int) ∧ wr = w1) (fun _ i _ => (intOf i + 1).toNat)
    case atStart => exact ⟨0, by omega, rfl, by rw [H0.out]; rfl, rfl⟩
    case round =>
      obtain ⟨k, hk, rfl, rfl, rfl⟩ := hrel
      by_cases hlt : k < 4
      · have hd : decide ((3 : Int) - (k : Int) ≥ 0) = true := by simp; omega
        obtain ⟨b, off, rfl, hb, hc⟩ := hcell.out (3 - k) (by omega)
        replace hc := (hw.cell (p := ⟨b, off + (3 - k), none⟩) hb).trans hc
        have hi : (3 : Int) - (k : Int) = ((3 - k : Nat) : Int) := by omega
        have hh := Hs.out k
        have hb1 := Hb.out k (by omega)
        have hb2 := Hb.out (k + 1) (by omega)
        unfold bv at hc
        have hx := (gb d (3 - k)).isLt
        generalize (gb d (3 - k)).toNat = x at *
        obtain ⟨y, hy⟩ : ∃ y, H (k + 1) = y := ⟨_, rfl⟩
        rw [hy] at hh hb2
        replace hy := hide hy
        generalize H k = z at *
        generalize hj : 3 - k = j at *
        go_wp2
        refine ⟨⟨k + 1, by omega, ?_, ?_, trivial⟩, ?_⟩
        · rw [show (j : Int) - 1 = 3 - ((k + 1 : Nat) : Int) by omega]
        · rw [hy.out, hh]
          rw [show ((z * 256 + x : Nat) : Int) = (z : Int) * 256 + (x : Int) by omega]
        · simp only [intOf]; omega
      · obtain rfl : k = 4 := by omega
        have hd : decide ((3 : Int) - ((4 : Nat) : Int) ≥ 0) = false := by decide
        have hcl := Hb.out 4 (by omega)
        have h4e := H4.out
        rw [h4e] at hcl ⊢
        clear Hs Hb H4 H0 h4e
        by_cases hn : cc ≤ d.length - 4
        · have hd2 : decide ((cc : Int) > (d.length : Int) - 4) = false := by simp; omega
          obtain ⟨hup2, hP, hPl⟩ := hup.out h4 hn
          replace hup2 := hide hup2
          have hPb : P.length ≤ 140737488355000 := by rw [hPl]; exact Nat.le_trans hcl (by decide)
          clear hPl
          have s1 := sl_mid ao d.length cap 4 (4 + cc) (by omega) (by omega)
          have b1 := bysB_mid (hDh.out _ hw) (show 4 ≤ 4 + cc by omega) (by omega) hcap
          rw [show (d.drop 4).take (4 + cc - 4) = P by rw [hP]; congr 1; omega] at b1
          obtain ⟨o1, k1, e1⟩ := slc_form ao cap 4 (4 + cc)
          rw [e1] at s1 b1
          rw [show ((4 + cc : Nat) : Int) = 4 + (cc : Int) by omega] at s1
          rw [show ((4 : Nat) : Int) = 4 from rfl] at s1
          clear hP
          generalize 4 + cc - 4 = n1 at *
          have hba : Below w.heap.size w (wr.alloc (.cells #[] 5)) := hw.alloc hw.size _
          have hbx : Below wr.heap.size wr (wr.alloc (.cells #[] 5)) := (Below.refl _ _).alloc (Nat.le_refl _) _
          have b2 := b1.keep hbx
          have hO0 := own_down (own_nil wr) hw.size
          have hog : ∀ k, (Value.slice (some ⟨wr.heap.size, 0, none⟩) 0 0).ownBlock = some k → w.heap.size ≤ k := own_low hO0
          clear hup hcell b1 hbx
          go_wp2_with (first | (at_builtin; refine wpList_append_B rfl _ _ rfl w.heap.size _ [] rfl hO0 _ P rfl b2 (by simp; omega) hba.size ?_) | fail)
          intro u w2 hO hgr
          replace hw := hba.grown hgr hba.size hog
          clear hgr hba hO0 b2 hog
          obtain ⟨ua, uc, rfl⟩ := slen_own hO
          go_wp2_with (fail)
          have hOB := hO.bysB hPb
          have cX := cP.out w2 _ hOB
          clear hOB
          refine cX.mono ?_
          rintro e_ w3 ⟨x, rfl, hX, hb⟩
          replace hO := hO.keep hb
          replace hw := Below.after hw hb
          clear hb cP cX
          obtain ⟨xa, xc, rfl⟩ := slen_own hX
          have cx := conv_bys hX.bys
          have cd := conv_bys (hDh.out _ hw).1
          have hde := str_dec (bys_bd hX.bys) (bys_bd (hDh.out _ hw).1)
          rw [bl_dec] at hde
          rcases hE : decide (E = 0)
          · have hu : O = false := by
              rcases h : O
              · rfl
              · exact absurd (hup2.out.2 h).1 (of_decide_eq_false hE)
            subst hu
            rw [if_neg Bool.false_ne_true] at eU eR
            have hE2 : (E == 0) = false := by simpa using hE
            have hE3 : ¬ E = 0 := of_decide_eq_false hE
            clear hE hup2 hul
            go_wp2
            go_ret2
            refine ⟨_, by rw [eU.out]; rfl, ?_, hw⟩
            rw [eR.out]
            exact own_none _ _
          · obtain rfl : E = 0 := of_decide_eq_true hE
            rcases hq : decide (D = d)
            · have hu : O = false := by
                rcases h : O
                · rfl
                · exact absurd (hup2.out.2 h).2 (of_decide_eq_false hq)
              subst hu
              rw [if_neg Bool.false_ne_true] at eU eR
              rw [hq] at hde
              clear hE hup2 hul hq
              go_wp2
              go_ret2
              refine ⟨_, by rw [eU.out]; rfl, ?_, hw⟩
              rw [eR.out]
              exact own_none _ _
            · have hu : O = true := hup2.out.1 ⟨rfl, of_decide_eq_true hq⟩
              subst hu
              rw [if_pos rfl] at eU eR
              rw [hq] at hde
              clear hE hup2 hul hq
              go_wp2
              go_ret2
              refine ⟨_, by rw [eU.out]; rfl, ?_, hw⟩
              rw [eR.out]
              exact hO
        · have hd2 : decide ((cc : Int) > (d.length : Int) - 4) = true := by simp; omega
          have hu : O = false := by
            rcases h : O
            · rfl
            · exact absurd (hul.out h).2 hn
          subst hu
          rw [if_neg Bool.false_ne_true] at eU eR
          go_wp2
          go_ret2
          refine ⟨_, by rw [eU.out]; rfl, ?_, hw⟩
          rw [eR.out]
          exact own_none _ _
theorem r_Unpad (ver : Int) (v : Nat) (hv : IntKind.wrap .u64 ver = (v : Int)) (h1 : -9223372036854775808 ≤ ver) (h2 : ver ≤ 9223372036854775807) (d : List B) (w : World) (dv : Value) (hD : BysB w dv d) (hcap : ∀ a l c, dv = .slice a l c → l ≤ c) : Calls Try.prog 18 #[.int .i64 ver, dv] w fun e w' => ∃ u, e = .returned (.tuple #[u, .int .i64 (upe v d)]) ∧ Own w' w.heap.size u (upr v d) ∧ Below w.heap.size w w' := by
  have c1 := r_known ver
  rw [(ver_known ver v hv h1 h2).1] at c1
  rcases hk : known v
  · obtain ⟨ao, cap, rfl⟩ := hD.form
    rw [hk] at c1
    have e1 : upe v d = 100 := by unfold upe; rw [hk, if_neg Bool.false_ne_true]
    have e2 : upr v d = [] := by unfold upr; rw [hk, Bool.false_and, if_neg Bool.false_ne_true]
    rw [e1, e2]
    clear e1 e2 hk hD
    go_enter Try.func18, Try.ntmps18
    go_wp2_with (fail)
    refine (c1.at _).mono ?_
    rintro e_ w1 ⟨rfl, hb⟩
    clear c1
    go_wp2
    go_ret2
    exact ⟨_, rfl, own_none _ _, hb⟩
  · rw [hk] at c1
    have e1 : upe v d = if upo v d then 0 else 101 := by unfold upe; rw [hk, if_pos rfl]
    have e2 : upr v d = if upo v d then (d.drop 4).take (cnt d) else [] := by unfold upr; rw [hk, Bool.true_and]
    rw [e1, e2]
    exact r_Unpad_aux ver d (upo v d) (cnt d) ((d.drop 4).take (cnt d)) (pdr v ((d.drop 4).take (cnt d))) _ (hnr d) rfl (fun k => by rw [hnr]) (hnr_bd d) (hnr_cnt d) (fun h => upo_len h)
      (fun h4 hn => ⟨upo_pad v d hk h4 hn, by rfl, by rw [List.length_take, List.length_drop]; omega⟩) c1 (fun w dv h => r_Pad ver v hv h1 h2 _ w dv h) w dv hD hcap
end Go.Proofs.Ytmiljapieehmgaa
