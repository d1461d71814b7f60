import Derived.Test.YtleeadbceljfbaaGreatDoorEve
import Derived.Test.YtleeadbceljfbaaGreatDoorIo
namespace Go.Proofs.YtleeadbceljfbaaGreatDoor
set_option maxRecDepth 100000
open Go Go.RowKit Go.Sort
/-! What was packed is read again; what is read was packed. -/
theorem efs_ech (v : Nat) (nonce hd bd : List B) : ech (efs v nonce hd bd) 0 = 0 := by
  simp [efs, ech, fck, hck, fits, known]
theorem en_le4 {n : Nat} (h : n < 268435456) : (en n).length ≤ 4 := by
  by_cases h1 : n < 128
  · rw [en_lo h1]; simp
  · rw [en_hi h1]
    by_cases h2 : n / 128 < 128
    · rw [en_lo h2]; simp
    · rw [en_hi h2]
      by_cases h3 : n / 128 / 128 < 128
      · rw [en_lo h3]; simp
      · rw [en_hi h3, en_lo (show n / 128 / 128 / 128 < 128 by omega)]; simp
theorem efs_len {v : Nat} {nonce hd bd : List B} (hv : v < 128) (hn : nonce.length = 16) (hh : hd.length = 60) : (ebs (efs v nonce hd bd)).length = 83 + (en bd.length).length + bd.length := by
  have e1 : (fby ⟨1, 0, v, []⟩).length = 2 := by
    unfold fby
    rw [List.length_append, show fhd ⟨1, 0, v, []⟩ = 8 from rfl, en_l1 (by decide), show fvl ⟨1, 0, v, []⟩ = en v from rfl, en_l1 hv]
  have e2 : (fby ⟨2, 2, 0, nonce⟩).length = 18 := by
    unfold fby
    rw [List.length_append, show fhd ⟨2, 2, 0, nonce⟩ = 18 from rfl, en_l1 (by decide), show fvl ⟨2, 2, 0, nonce⟩ = itm nonce from rfl, itm_len, hn, en_l1 (by decide)]
  have e3 : (fby ⟨3, 2, 0, hd⟩).length = 62 := by
    unfold fby
    rw [List.length_append, show fhd ⟨3, 2, 0, hd⟩ = 26 from rfl, en_l1 (by decide), show fvl ⟨3, 2, 0, hd⟩ = itm hd from rfl, itm_len, hh, en_l1 (by decide)]
  have e4 : (fby ⟨4, 2, 0, bd⟩).length = 1 + ((en bd.length).length + bd.length) := by
    unfold fby
    rw [List.length_append, show fhd ⟨4, 2, 0, bd⟩ = 34 from rfl, en_l1 (by decide), show fvl ⟨4, 2, 0, bd⟩ = itm bd from rfl, itm_len]
  unfold efs
  rw [ebs, ebs, ebs, ebs, ebs, List.length_append, List.length_append, List.length_append, List.length_append, e1, e2, e3, e4, List.length_nil]
  omega
theorem mo_le (v : Nat) : mo v ≤ 2097168 := by
  unfold mo
  split <;> decide
theorem efs_eer {v : Nat} {nonce hd bd : List B} (hv : v < 128) (hn : nonce.length = 16) (hh : hd.length = 60) (hb : bd.length ≤ 2097168) : eer (efs v nonce hd bd) = 0 := by
  refine eer_ok.2 ⟨by show 4 ≤ 64; decide, efs_ech _ _ _ _, ?_⟩
  rw [efs_len hv hn hh]
  have := en_le4 (n := bd.length) (by omega)
  omega
theorem efs_fok {v : Nat} {nonce hd bd : List B} (hv : v < 128) (hn : nonce.length = 16) (hh : hd.length = 60) (hb : bd.length ≤ 2097168) : ∀ f ∈ efs v nonce hd bd, Fok f := by
  intro f hf
  simp only [efs, List.mem_cons, List.not_mem_nil, or_false] at hf
  rcases hf with rfl | rfl | rfl | rfl
  · exact ⟨by show v < _; omega, by show 0 ≤ _; omega, by show (-9223372036854775808 : Int) ≤ 1; decide, by show (1 : Int) ≤ _; decide⟩
  · exact ⟨by show 0 < _; decide, by show nonce.length ≤ _; omega, by show (-9223372036854775808 : Int) ≤ 2; decide, by show (2 : Int) ≤ _; decide⟩
  · exact ⟨by show 0 < _; decide, by show hd.length ≤ _; omega, by show (-9223372036854775808 : Int) ≤ 3; decide, by show (3 : Int) ≤ _; decide⟩
  · exact ⟨by show 0 < _; decide, by show bd.length ≤ _; omega, by show (-9223372036854775808 : Int) ≤ 4; decide, by show (4 : Int) ≤ _; decide⟩
theorem pk_ok {v hl bn : Nat} (h : pk10 v hl bn = none) : hl = 60 ∧ 80 ≤ bn ∧ bn ≤ mo v ∧ bkd (dg v) (bn - 16) = bn - 16 := by
  unfold pk10 at h
  split at h
  · cases h
  · split at h
    · cases h
    · split at h
      · exact ⟨by omega, by omega, by omega, by assumption⟩
      · cases h
theorem pk_of {v hl bn : Nat} (h1 : hl = 60) (h2 : 80 ≤ bn) (h3 : bn ≤ mo v) (h4 : bkd (dg v) (bn - 16) = bn - 16) : pk10 v hl bn = none := by
  unfold pk10
  rw [if_neg (by omega), if_neg (by omega), if_pos h4]
theorem known_lt10 {v : Nat} (h : known10 v = true) : v = 1 ∨ v = 2 := by
  unfold known10 at h
  simpa using h
theorem wth_in {n l m : Int} (h1 : l ≤ n) (h2 : n ≤ m) : wth n l m = 0 := by
  unfold wth
  rw [if_neg (by omega)]
theorem dsl_some {t : Slt} {f : Fd} {a : Int} (h1 : f.no = t.no) (h2 : f.ty = wtK t) (h3 : ftF t f = 0) : dsl t f a = none := by
  unfold dsl rdE
  rw [if_neg (by simp [h1]), if_neg (by simp [h2]), if_pos h3]
theorem efs_dec8 {v : Nat} {nonce hd bd : List B} (hn : nonce.length = 16) (hh : hd.length = 60) (h2 : 80 ≤ bd.length) (h3 : bd.length ≤ mo v) (a : Int) : dcF (esl v) (efs v nonce hd bd) a = none := by
  unfold esl efs
  have q1 : ∀ a, dsl (.mk 1 1 v v []) ⟨1, 0, v, []⟩ a = none := fun a => dsl_some rfl rfl (show wth (v : Int) (v : Int) (v : Int) = 0 from wth_in (Int.le_refl _) (Int.le_refl _))
  have q2 : ∀ a, dsl (.mk 2 5 16 16 []) ⟨2, 2, 0, nonce⟩ a = none := fun a => dsl_some rfl rfl (show wth (nonce.length : Int) 16 16 = 0 by rw [hn]; rfl)
  have q3 : ∀ a, dsl (.mk 3 5 60 60 []) ⟨3, 2, 0, hd⟩ a = none := fun a => dsl_some rfl rfl (show wth (hd.length : Int) 60 60 = 0 by rw [hh]; rfl)
  have q4 : ∀ a, dsl (.mk 4 5 80 (mo v) []) ⟨4, 2, 0, bd⟩ a = none := fun a => dsl_some rfl rfl (show wth (bd.length : Int) 80 (mo v : Int) = 0 from wth_in (by omega) (by omega))
  simp only [dcF, q1, q2, q3, q4]
/-- An envelope that was packed is read again. -/
theorem there10 {v : Nat} {nonce hd bd : List B} (hk : known10 v = true) (hn : nonce.length = 16) (h : pk10 v hd.length bd.length = none) : dfs (dwh (eout (efs v nonce hd bd))) = efs v nonce hd bd ∧ riV (eout (efs v nonce hd bd)) = v ∧ paF (eout (efs v nonce hd bd)) = none ∧ (eout (efs v nonce hd bd)).length = 83 + (en bd.length).length + bd.length ∧ der (dwh (eout (efs v nonce hd bd))) = 0 := by
  obtain ⟨h1, h2, h3, h4⟩ := pk_ok h
  have hv : v < 128 := by rcases known_lt10 hk with rfl | rfl <;> decide
  have hb : bd.length ≤ 2097168 := Nat.le_trans h3 (mo_le v)
  have e0 := efs_eer hv hn h1 hb
  have e1 : eout (efs v nonce hd bd) = ebs (efs v nonce hd bd) := by unfold eout; rw [if_pos e0]
  obtain ⟨d1, d2, d3⟩ := enc_dec e0 (efs_fok hv hn h1 hb)
  rw [e1]
  have hV : riV (ebs (efs v nonce hd bd)) = v := by unfold riV; rw [d3]; rfl
  have hE : riE (ebs (efs v nonce hd bd)) = 0 := by
    unfold riE
    rw [hV, d1, d3, if_neg (by simp), if_neg (by show ¬ (4 = 0 ∨ (1 : Int) ≠ 1); simp), if_neg (by show ¬ (0 : Int) ≠ 0; simp), if_pos hk]
  refine ⟨d3, hV, ?_, efs_len hv hn h1, d1⟩
  unfold paF
  rw [if_neg (by rw [hE]; simp), hV, show dec8 (esl v) (ebs (efs v nonce hd bd)) 0 = none by unfold dec8; rw [d1, d3, if_neg (by simp)]; exact efs_dec8 hn h1 h2 h3 0]
  simp only
  rw [d3, show (gf (efs v nonce hd bd) 3).dat = bd from rfl, if_pos h4]
/-- What is read as an envelope was packed so. -/
theorem back10 {d : List B} (h : paF d = none) : ∃ nonce hd bd, known10 (riV d) = true ∧ nonce.length = 16 ∧ dfs (dwh d) = efs (riV d) nonce hd bd ∧ pk10 (riV d) hd.length bd.length = none ∧ eout (efs (riV d) nonce hd bd) = d ∧ der (dwh d) = 0 := by
  unfold paF at h
  split at h
  · cases h
  · rename_i hE
    have hk := riE_known (by simpa using hE)
    cases hR : dec8 (esl (riV d)) d 0 with
    | some x => rw [hR] at h; cases h
    | none =>
      rw [hR] at h
      simp only at h
      obtain ⟨d0, nonce, hd, bd, hfs, hn, h60, h80, hmo⟩ := dec_esl hR
      have he := dec_enc d0
      rw [hfs] at h he
      split at h
      · rename_i h4
        exact ⟨nonce, hd, bd, hk, hn, hfs, pk_of h60 h80 hmo h4, he.2, d0⟩
      · cases h
/-! Padding. -/
theorem cnt_pd4 (n : Nat) (r : List B) (h : n < 4294967296) : cnt (pd4 n ++ r) = n := by
  have g0 : gb (pd4 n ++ r) 0 = BitVec.ofNat 8 n := rfl
  have g1 : gb (pd4 n ++ r) 1 = BitVec.ofNat 8 (n / 256) := rfl
  have g2 : gb (pd4 n ++ r) 2 = BitVec.ofNat 8 (n / 65536) := rfl
  have g3 : gb (pd4 n ++ r) 3 = BitVec.ofNat 8 (n / 16777216) := rfl
  simp only [cnt, cnk, g0, g1, g2, g3, bit8]
  omega
theorem bke_le {v : Nat} {n : Nat} (h : bke v (n : Int) = 0) : n ≤ 1048576 := by
  have := (bke_ok h).2.2
  omega
/-- What was padded comes back. -/
theorem pad_back {v : Nat} {d : List B} (hz : bke v (d.length : Int) = 0) : upe v (pdr v d) = 0 ∧ upr v (pdr v d) = d ∧ (pdr v d).length = bkd (dg v) (4 + d.length) := by
  have hk := (bke_ok hz).1
  have hb := bke_le hz
  have hge := bkd_ge (dg v) (4 + d.length) (dg_pos v) (dg_le v)
  have e : pdr v d = pd4 d.length ++ (d ++ List.replicate (bkd (dg v) (4 + d.length) - 4 - d.length) 0#8) := by rw [pdr, if_pos hz, pdb, List.append_assoc]
  have hc : cnt (pdr v d) = d.length := by rw [e]; exact cnt_pd4 _ _ (by omega)
  have hl : (pdr v d).length = bkd (dg v) (4 + d.length) := by rw [pdr, if_pos hz]; exact pdb_len _ _ hge
  have hx : ((pdr v d).drop 4).take (cnt (pdr v d)) = d := by
    rw [hc, e, List.drop_left' (by rfl), List.take_left' rfl]
  have hu : upo v (pdr v d) = true := by
    refine (upo_pad v (pdr v d) hk (by rw [hl]; omega) (by rw [hc, hl]; omega)).1 ?_
    rw [hx]
    exact ⟨hz, rfl⟩
  refine ⟨?_, ?_, hl⟩
  · unfold upe; rw [if_pos hk, if_pos hu]
  · unfold upr; rw [hk, hu, Bool.and_self, if_pos rfl]; exact hx
/-- What Unpad takes is what Pad makes. -/
theorem unpad_back {v : Nat} {b : List B} (h : upe v b = 0) : known10 v = true ∧ bke v ((upr v b).length : Int) = 0 ∧ pdr v (upr v b) = b := by
  unfold upe at h
  split at h
  · rename_i hk
    split at h
    · rename_i hu
      obtain ⟨h4, hn⟩ := upo_len hu
      have := (upo_pad v b hk h4 hn).2 hu
      have e : upr v b = (b.drop 4).take (cnt b) := by unfold upr; rw [hk, hu, Bool.and_self, if_pos rfl]
      rw [e]
      exact ⟨hk, this.1, this.2⟩
    · cases h
  · cases h
end Go.Proofs.YtleeadbceljfbaaGreatDoor
