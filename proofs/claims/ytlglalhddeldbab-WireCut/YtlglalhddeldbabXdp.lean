import Derived.Test.YtlglalhddeldbabProg
import Derived.WalkKit
import Derived.WalkSpells
import Derived.WalkLawsBesides
import Derived.Lib.QuietBelow
import Derived.Laws.BitsAllLaws
import Derived.BigQuiet
import Derived.WalkMore
import Derived.Test.YtlglalhddeldbabKit
import Derived.Test.YtlglalhddeldbabXdo
import Derived.Test.YtlglalhddeldbabWy
namespace Go.Proofs.Ytlglalhddeldbab
open Go Go.RowKit Go.Sort
attribute [local go_sem] setCell_drewN alloc_drewN

theorem own_cap {W : World} {b : Nat} {v : Value} {d : List B} (h : Own W b v d) : ∀ a l c, v = .slice a l c → l ≤ c := by
  intro a l c e
  obtain ⟨_, ⟨rfl, h0⟩ | ⟨g, cap, cur, rfl, _, _, hn, _⟩⟩ := h
  · cases e; omega
  · cases e; exact hn
theorem Fds.okm {W : World} {v : Value} {fs : List Fd} (h : Fds W v fs) : ∀ f ∈ fs, Fok f := by
  intro f hf
  obtain ⟨i, hi, rfl⟩ := List.getElem_of_mem hf
  have := h.ok hi
  rwa [gf, List.getD_eq_getElem?_getD, List.getElem?_eq_getElem hi] at this
theorem eer_len {fs : List Fd} (h : eer fs = 0) : fs.length ≤ 64 ∧ (ebs fs).length ≤ 4194304 := by
  unfold eer at h
  split at h
  · simp at h
  · split at h
    · rename_i q; exact absurd h q
    · split at h
      · simp at h
      · omega
theorem one_er {f : Fd} (h : hck f 0 = 0) (hf : fits f) (hl : (fvl f).length ≤ 100) (hh : fhd f < 18446744073709551616) : eer [f] = 0 := by
  have hk : fck f 0 = 0 := by rw [fck, if_neg (by rw [h]; simp), if_pos hf]
  have he : ech [f] 0 = 0 := by rw [ech, if_neg (by rw [hk]; simp)]; rfl
  have := en_ten hh
  rw [eer, if_neg (by simp), if_neg (by rw [he]; simp), if_neg (by rw [ebs_one, fby, List.length_append]; omega)]
/-- Encode, then Decode. -/
theorem there_back {fs : List Fd} (h : eer fs = 0) (hok : ∀ f ∈ fs, Fok f) (w : World) (v : Value) (b : Nat) (hO : Own w b v (ebs fs)) : Calls Try.prog 16 #[v] w fun e w' => ∃ u us, e = .returned (.tuple #[u, .int .i64 0, .int .i64 0]) ∧ Fts w' w.heap.size u us fs ∧ Below w.heap.size w w' := by
  have h1 := enc_dec h hok
  have c := a_decode (ebs fs) w v (hO.bysB (by have := (eer_len h).2; omega)) (own_cap hO)
  rw [h1.1, h1.2.1, h1.2.2] at c
  exact c
theorem oks_i {fs : List Fd} (hok : ∀ f ∈ fs, Fok f) : ∀ i, i < fs.length → Fok (gf fs i) := by
  intro i hi
  refine hok _ ?_
  rw [gf, List.getD_eq_getElem?_getD, List.getElem?_eq_getElem hi]
  exact List.getElem_mem hi
set_option maxRecDepth 100000 in
set_option maxHeartbeats 8000000 in
theorem messages_any (fs : List Fd) (no : Int) (n : Nat) (hn : n < 18446744073709551616) (W : World) (v : Value) (hB : Fds W v fs) : Calls Try.prog 7 #[v, .int .i64 no, .int .u64 (n : Int)] W fun e w' => e = .returned (.bool true) ∧ Below W.heap.size W w' := by
  have hlen := hB.len
  have hok := hide hB.okm
  go_enter Try.func7, Try.ntmps7
  have hcut : ∀ (t0 t1 : Value), True := fun _ _ => trivial
  clear hcut
  by_cases he : eer fs = 0
  · have heo : eout fs = ebs fs := if_pos he
    have cX := a_encode fs W v hB
    rw [he, heo] at cX
    go_wp2_with (fail)
    refine cX.mono ?_
    rintro e_ w1 ⟨x, rfl, hx, hb⟩
    have hw := hb
    replace hB := hB.keep hb
    clear hb cX
    have cX := there_back he hok.out w1 _ _ hx
    go_wp2_with (fail)
    refine cX.mono ?_
    rintro e_ w2 ⟨u, us, rfl, hU, hb⟩
    replace hw := Below.after hw hb
    replace hB := hB.keep hb
    replace hx := hx.keep hb
    clear hb cX
    have hUF := hU.fds hlen (oks_i hok.out)
    clear hU
    have cX := l_alike fs w2 _ _ hUF hB
    go_wp2_with (fail)
    refine cX.mono ?_
    rintro e_ w3 ⟨rfl, hb⟩
    replace hw := Below.after hw hb
    replace hB := hB.keep hb
    replace hUF := hUF.keep hb
    clear hb cX
    clear hUF hx heo he hok hlen
    clear hB
    by_cases hr : no < 1 ∨ 536870911 < no
    · have hd : (decide (no < 1) || decide (no > 536870911)) = true := by simpa using hr
      by_cases hr1 : no < 1
      · have d1 : decide (no < 1) = true := by simpa using hr1
        go_wp2_with (fail)
        go_ret
        exact ⟨rfl, hw⟩
      · have d1 : decide (no < 1) = false := by simpa using hr1
        have d2 : decide (no > 536870911) = true := by simp; omega
        go_wp2_with (fail)
        go_ret
        exact ⟨rfl, hw⟩
    have d1 : decide (no < 1) = false := by simp; omega
    have d2 : decide (no > 536870911) = false := by simp; omega
    go_wp2_with (fail)
    have r0 := hp1_0 w3 (.cells #[.int .i64 0, .int .i64 1, .int .i64 5, .int .i64 2] 55)
    replace hw := Below.after hw (show Below w3.heap.size w3 (w3.alloc (.cells #[.int .i64 0, .int .i64 1, .int .i64 5, .int .i64 2] 55)) from (Below.refl _ _).alloc (Nat.le_refl _) _)
    generalize w3.alloc (.cells #[.int .i64 0, .int .i64 1, .int .i64 5, .int .i64 2] 55) = wK at *
    generalize w3.heap.size = g at *
    go_loopw [13] (fun i wr => ∃ j : Nat, j ≤ 4 ∧ i = .int .i64 (j : Int) ∧ wr.heap[g]? = some (.cells #[.int .i64 0, .int .i64 1, .int .i64 5, .int .i64 2] 55 (0, 0)) ∧ Below W.heap.size W wr) (fun i _ => 4 - (intOf i).toNat)
    case atStart => exact ⟨0, by omega, rfl, r0, hw⟩
    case round =>
      clear r0 hw
      obtain ⟨j, hj, rfl, r0, hw⟩ := hrel
      have hgl := lt_of_row r0
      have c0 : wr.cell? ⟨g, 0, none⟩ = some (.int .i64 0) := by rw [cell_of_row _ g 0 _ _ _ r0]; rfl
      have c1 : wr.cell? ⟨g, 1, none⟩ = some (.int .i64 1) := by rw [cell_of_row _ g 1 _ _ _ r0]; rfl
      have c2 : wr.cell? ⟨g, 2, none⟩ = some (.int .i64 5) := by rw [cell_of_row _ g 2 _ _ _ r0]; rfl
      have c3 : wr.cell? ⟨g, 3, none⟩ = some (.int .i64 2) := by rw [cell_of_row _ g 3 _ _ _ r0]; rfl
      by_cases h4 : j = 4
      · subst h4
        go_wp2_with (fail)
        go_ret
        exact ⟨rfl, hw⟩
      · have hjj : j = 0 ∨ j = 1 ∨ j = 2 ∨ j = 3 := by omega
        rcases hjj with rfl | rfl | rfl | rfl
        · skip
          have hfok : Fok ⟨no, 0, n, []⟩ := ⟨hn, by simp, by show _ ≤ no; omega, by show no ≤ _; omega⟩
          have her : eer [⟨no, 0, n, []⟩] = 0 := one_er (by unfold hck; rw [if_neg (by simp only; omega), if_pos (.inl rfl)]) (by simp [fits]) (by show (en n).length ≤ 100; have := en_ten hn; omega) (by show 8 * no.toNat + 0 < _; omega)
          have heo : eout [⟨no, 0, n, []⟩] = ebs [⟨no, 0, n, []⟩] := if_pos her
          have hok1 : ∀ f_ ∈ [⟨no, 0, n, []⟩], Fok f_ := fun f_ h_ => by rw [List.mem_singleton.1 h_]; exact hfok
          have hF1 := fds_one (wr.alloc (.cells #[.int .i64 no, .int .i64 0, .int .u64 (n : Int), .slice none 0 0] 38)) ⟨no, 0, n, []⟩ (.slice none 0 0) (bys_nil (wr.alloc (.cells #[.int .i64 no, .int .i64 0, .int .u64 (n : Int), .slice none 0 0] 38))) hfok
          have hbX : Below wr.heap.size wr (wr.alloc (.cells #[.int .i64 no, .int .i64 0, .int .u64 (n : Int), .slice none 0 0] 38)) := (Below.refl _ _).alloc (Nat.le_refl _) _
          have rX : (wr.alloc (.cells #[.int .i64 no, .int .i64 0, .int .u64 (n : Int), .slice none 0 0] 38)).heap[wr.heap.size]? = some (.cells #[.int .i64 no, .int .i64 0, .int .u64 ((n : Int)), .slice none 0 0] 38 (0, 0)) := hp1_0 wr _
          have hbn : Below (wr.alloc (.cells #[.int .i64 no, .int .i64 0, .int .u64 (n : Int), .slice none 0 0] 38)).heap.size (wr.alloc (.cells #[.int .i64 no, .int .i64 0, .int .u64 (n : Int), .slice none 0 0] 38)) ((wr.alloc (.cells #[.int .i64 no, .int .i64 0, .int .u64 (n : Int), .slice none 0 0] 38)).alloc (.cells #[.int .i64 no, .int .i64 0, .int .u64 ((n : Int)), .slice none 0 0] 38)) := (Below.refl _ _).alloc (Nat.le_refl _) _
          replace r0 := keep hbn (keep hbX r0)
          replace rX := keep hbn rX
          replace hw := Below.after (Below.after hw hbX) hbn
          clear hbn hbX
          rw [size_alloc1] at hF1
          have cX := a_encode [⟨no, 0, n, []⟩] _ _ hF1
          rw [her, heo] at cX
          clear hF1
          go_wp2_with (fail)
          refine cX.mono ?_
          rintro e_ wE ⟨x1, rfl, hx1, hb⟩
          replace r0 := keep hb r0
          replace rX := keep hb rX
          replace hw := Below.after hw hb
          clear cX hb c0 c1 c2 c3
          generalize wr.heap.size = gx at *
          have cX := there_back her hok1 wE _ _ hx1
          go_wp2_with (fail)
          refine cX.mono ?_
          rintro e_ wF ⟨u1, us1, rfl, hU, hb⟩
          replace r0 := keep hb r0
          replace rX := keep hb rX
          replace hw := Below.after hw hb
          clear cX hb hx1
          have hUF := hU.fds (by simp) (oks_i hok1)
          have hF2 := fds_one wF ⟨no, 0, n, []⟩ (.slice none 0 0) (bys_nil wF) hfok
          have hbn : Below wF.heap.size wF (wF.alloc (.cells #[.int .i64 no, .int .i64 0, .int .u64 ((n : Int)), .slice none 0 0] 38)) := (Below.refl _ _).alloc (Nat.le_refl _) _
          have cX := l_alike [⟨no, 0, n, []⟩] _ _ _ (hUF.keep hbn) hF2
          replace r0 := keep hbn r0
          replace hw := Below.after hw hbn
          clear hU hUF hF2 hbn
          go_wp2_with (first | (refine wpList_load_want rfl 38 _ rfl gx rfl 38 #[.int .i64 no, .int .i64 0, .int .u64 ((n : Int)), .slice none 0 0] (0, 0) _ rX Try.underlying38 rfl infoF ?_) | fail)
          refine cX.mono ?_
          rintro e_ wG ⟨rfl, hb⟩
          replace r0 := keep hb r0
          replace hw := Below.after hw hb
          clear cX hb rX
          go_wp2_with (fail)
          refine ⟨⟨1, by omega, by go_num, r0, hw⟩, ?_⟩
          simp [intOf]
        · skip
          have hfok : Fok ⟨no, 1, n, []⟩ := ⟨hn, by simp, by show _ ≤ no; omega, by show no ≤ _; omega⟩
          have her : eer [⟨no, 1, n, []⟩] = 0 := one_er (by unfold hck; rw [if_neg (by simp only; omega), if_pos (.inr (.inl rfl))]) (by simp [fits]) (by show (fx 8 n).length ≤ 100; rw [fx_len]; omega) (by show 8 * no.toNat + 1 < _; omega)
          have heo : eout [⟨no, 1, n, []⟩] = ebs [⟨no, 1, n, []⟩] := if_pos her
          have hok1 : ∀ f_ ∈ [⟨no, 1, n, []⟩], Fok f_ := fun f_ h_ => by rw [List.mem_singleton.1 h_]; exact hfok
          have hF1 := fds_one (wr.alloc (.cells #[.int .i64 no, .int .i64 1, .int .u64 (n : Int), .slice none 0 0] 38)) ⟨no, 1, n, []⟩ (.slice none 0 0) (bys_nil (wr.alloc (.cells #[.int .i64 no, .int .i64 1, .int .u64 (n : Int), .slice none 0 0] 38))) hfok
          have hbX : Below wr.heap.size wr (wr.alloc (.cells #[.int .i64 no, .int .i64 1, .int .u64 (n : Int), .slice none 0 0] 38)) := (Below.refl _ _).alloc (Nat.le_refl _) _
          have rX : (wr.alloc (.cells #[.int .i64 no, .int .i64 1, .int .u64 (n : Int), .slice none 0 0] 38)).heap[wr.heap.size]? = some (.cells #[.int .i64 no, .int .i64 1, .int .u64 ((n : Int)), .slice none 0 0] 38 (0, 0)) := hp1_0 wr _
          have hbn : Below (wr.alloc (.cells #[.int .i64 no, .int .i64 1, .int .u64 (n : Int), .slice none 0 0] 38)).heap.size (wr.alloc (.cells #[.int .i64 no, .int .i64 1, .int .u64 (n : Int), .slice none 0 0] 38)) ((wr.alloc (.cells #[.int .i64 no, .int .i64 1, .int .u64 (n : Int), .slice none 0 0] 38)).alloc (.cells #[.int .i64 no, .int .i64 1, .int .u64 ((n : Int)), .slice none 0 0] 38)) := (Below.refl _ _).alloc (Nat.le_refl _) _
          replace r0 := keep hbn (keep hbX r0)
          replace rX := keep hbn rX
          replace hw := Below.after (Below.after hw hbX) hbn
          clear hbn hbX
          rw [size_alloc1] at hF1
          have cX := a_encode [⟨no, 1, n, []⟩] _ _ hF1
          rw [her, heo] at cX
          clear hF1
          go_wp2_with (fail)
          refine cX.mono ?_
          rintro e_ wE ⟨x1, rfl, hx1, hb⟩
          replace r0 := keep hb r0
          replace rX := keep hb rX
          replace hw := Below.after hw hb
          clear cX hb c0 c1 c2 c3
          generalize wr.heap.size = gx at *
          have cX := there_back her hok1 wE _ _ hx1
          go_wp2_with (fail)
          refine cX.mono ?_
          rintro e_ wF ⟨u1, us1, rfl, hU, hb⟩
          replace r0 := keep hb r0
          replace rX := keep hb rX
          replace hw := Below.after hw hb
          clear cX hb hx1
          have hUF := hU.fds (by simp) (oks_i hok1)
          have hF2 := fds_one wF ⟨no, 1, n, []⟩ (.slice none 0 0) (bys_nil wF) hfok
          have hbn : Below wF.heap.size wF (wF.alloc (.cells #[.int .i64 no, .int .i64 1, .int .u64 ((n : Int)), .slice none 0 0] 38)) := (Below.refl _ _).alloc (Nat.le_refl _) _
          have cX := l_alike [⟨no, 1, n, []⟩] _ _ _ (hUF.keep hbn) hF2
          replace r0 := keep hbn r0
          replace hw := Below.after hw hbn
          clear hU hUF hF2 hbn
          go_wp2_with (first | (refine wpList_load_want rfl 38 _ rfl gx rfl 38 #[.int .i64 no, .int .i64 1, .int .u64 ((n : Int)), .slice none 0 0] (0, 0) _ rX Try.underlying38 rfl infoF ?_) | fail)
          refine cX.mono ?_
          rintro e_ wG ⟨rfl, hb⟩
          replace r0 := keep hb r0
          replace hw := Below.after hw hb
          clear cX hb rX
          go_wp2_with (fail)
          refine ⟨⟨2, by omega, by go_num, r0, hw⟩, ?_⟩
          simp [intOf]
        · obtain ⟨m, hm, hm2⟩ : ∃ m : Nat, (n : Int) % 4294967296 = (m : Int) ∧ m ≤ 4294967295 := ⟨n % 4294967296, by omega, by omega⟩
          have hfok : Fok ⟨no, 5, m, []⟩ := ⟨by show m < _; omega, by simp, by show _ ≤ no; omega, by show no ≤ _; omega⟩
          have her : eer [⟨no, 5, m, []⟩] = 0 := one_er (by unfold hck; rw [if_neg (by simp only; omega), if_pos (.inr (.inr (.inr rfl)))]) (by simp [fits]; omega) (by show (fx 4 m).length ≤ 100; rw [fx_len]; omega) (by show 8 * no.toNat + 5 < _; omega)
          have heo : eout [⟨no, 5, m, []⟩] = ebs [⟨no, 5, m, []⟩] := if_pos her
          have hok1 : ∀ f_ ∈ [⟨no, 5, m, []⟩], Fok f_ := fun f_ h_ => by rw [List.mem_singleton.1 h_]; exact hfok
          have hF1 := fds_one (wr.alloc (.cells #[.int .i64 no, .int .i64 5, .int .u64 (m : Int), .slice none 0 0] 38)) ⟨no, 5, m, []⟩ (.slice none 0 0) (bys_nil (wr.alloc (.cells #[.int .i64 no, .int .i64 5, .int .u64 (m : Int), .slice none 0 0] 38))) hfok
          have hbX : Below wr.heap.size wr (wr.alloc (.cells #[.int .i64 no, .int .i64 5, .int .u64 (m : Int), .slice none 0 0] 38)) := (Below.refl _ _).alloc (Nat.le_refl _) _
          have rX : (wr.alloc (.cells #[.int .i64 no, .int .i64 5, .int .u64 (m : Int), .slice none 0 0] 38)).heap[wr.heap.size]? = some (.cells #[.int .i64 no, .int .i64 5, .int .u64 ((m : Int)), .slice none 0 0] 38 (0, 0)) := hp1_0 wr _
          have hbn : Below (wr.alloc (.cells #[.int .i64 no, .int .i64 5, .int .u64 (m : Int), .slice none 0 0] 38)).heap.size (wr.alloc (.cells #[.int .i64 no, .int .i64 5, .int .u64 (m : Int), .slice none 0 0] 38)) ((wr.alloc (.cells #[.int .i64 no, .int .i64 5, .int .u64 (m : Int), .slice none 0 0] 38)).alloc (.cells #[.int .i64 no, .int .i64 5, .int .u64 ((m : Int)), .slice none 0 0] 38)) := (Below.refl _ _).alloc (Nat.le_refl _) _
          replace r0 := keep hbn (keep hbX r0)
          replace rX := keep hbn rX
          replace hw := Below.after (Below.after hw hbX) hbn
          clear hbn hbX
          rw [size_alloc1] at hF1
          have cX := a_encode [⟨no, 5, m, []⟩] _ _ hF1
          rw [her, heo] at cX
          clear hF1
          go_wp2_with (fail)
          refine cX.mono ?_
          rintro e_ wE ⟨x1, rfl, hx1, hb⟩
          replace r0 := keep hb r0
          replace rX := keep hb rX
          replace hw := Below.after hw hb
          clear cX hb c0 c1 c2 c3
          generalize wr.heap.size = gx at *
          have cX := there_back her hok1 wE _ _ hx1
          go_wp2_with (fail)
          refine cX.mono ?_
          rintro e_ wF ⟨u1, us1, rfl, hU, hb⟩
          replace r0 := keep hb r0
          replace rX := keep hb rX
          replace hw := Below.after hw hb
          clear cX hb hx1
          have hUF := hU.fds (by simp) (oks_i hok1)
          have hF2 := fds_one wF ⟨no, 5, m, []⟩ (.slice none 0 0) (bys_nil wF) hfok
          have hbn : Below wF.heap.size wF (wF.alloc (.cells #[.int .i64 no, .int .i64 5, .int .u64 ((m : Int)), .slice none 0 0] 38)) := (Below.refl _ _).alloc (Nat.le_refl _) _
          have cX := l_alike [⟨no, 5, m, []⟩] _ _ _ (hUF.keep hbn) hF2
          replace r0 := keep hbn r0
          replace hw := Below.after hw hbn
          clear hU hUF hF2 hbn
          go_wp2_with (first | (refine wpList_load_want rfl 38 _ rfl gx rfl 38 #[.int .i64 no, .int .i64 5, .int .u64 ((m : Int)), .slice none 0 0] (0, 0) _ rX Try.underlying38 rfl infoF ?_) | fail)
          refine cX.mono ?_
          rintro e_ wG ⟨rfl, hb⟩
          replace r0 := keep hb r0
          replace hw := Below.after hw hb
          clear cX hb rX
          go_wp2_with (fail)
          refine ⟨⟨3, by omega, by go_num, r0, hw⟩, ?_⟩
          simp [intOf]
        · obtain ⟨x8, hx8⟩ : ∃ x8 : B, (n : Int) % 256 = bv x8 := ⟨BitVec.ofNat 8 n, by simp [bv]⟩
          have hfok : Fok ⟨no, 2, 0, [x8, 2#8, 3#8]⟩ := ⟨by show 0 < _; omega, by simp, by show _ ≤ no; omega, by show no ≤ _; omega⟩
          have her : eer [⟨no, 2, 0, [x8, 2#8, 3#8]⟩] = 0 := one_er (by unfold hck; rw [if_neg (by simp only; omega), if_pos (.inr (.inr (.inl rfl)))]) (by simp [fits]) (by show (itm [x8, 2#8, 3#8]).length ≤ 100; rw [itm, List.length_append]; have := en_ten (n := [x8, 2#8, 3#8].length) (by simp); simp only [List.length_cons, List.length_nil] at *; omega) (by show 8 * no.toNat + 2 < _; omega)
          have heo : eout [⟨no, 2, 0, [x8, 2#8, 3#8]⟩] = ebs [⟨no, 2, 0, [x8, 2#8, 3#8]⟩] := if_pos her
          have hok1 : ∀ f_ ∈ [⟨no, 2, 0, [x8, 2#8, 3#8]⟩], Fok f_ := fun f_ h_ => by rw [List.mem_singleton.1 h_]; exact hfok
          have hu3 : BysB ((wr.alloc (.cells #[.int .i64 no, .int .i64 2, .int .u64 0, .slice (some ⟨wr.heap.size + 1, 0, none⟩) 3 3] 38)).alloc (.cells #[.int .u8 (bv x8), .int .u8 2, .int .u8 3] 5)) (.slice (some ⟨wr.heap.size + 1, 0, none⟩) 3 3) [x8, 2#8, 3#8] := ⟨Bys.of_row (l := bl [x8, 2#8, 3#8]) (hp2_1 wr (.cells #[.int .i64 no, .int .i64 2, .int .u64 0, .slice (some ⟨wr.heap.size + 1, 0, none⟩) 3 3] 38) (.cells #[.int .u8 (bv x8), .int .u8 2, .int .u8 3] 5)) (by simp [bl]) (bl_bnd _) 3, by simp, fun a l c e h => by cases e; cases h⟩
          have hF1 := fds_one ((wr.alloc (.cells #[.int .i64 no, .int .i64 2, .int .u64 0, .slice (some ⟨wr.heap.size + 1, 0, none⟩) 3 3] 38)).alloc (.cells #[.int .u8 (bv x8), .int .u8 2, .int .u8 3] 5)) ⟨no, 2, 0, [x8, 2#8, 3#8]⟩ (.slice (some ⟨wr.heap.size + 1, 0, none⟩) 3 3) hu3 hfok
          have hbX : Below wr.heap.size wr ((wr.alloc (.cells #[.int .i64 no, .int .i64 2, .int .u64 0, .slice (some ⟨wr.heap.size + 1, 0, none⟩) 3 3] 38)).alloc (.cells #[.int .u8 (bv x8), .int .u8 2, .int .u8 3] 5)) := ((Below.refl _ _).alloc (Nat.le_refl _) _).alloc (by simp) _
          have rX : ((wr.alloc (.cells #[.int .i64 no, .int .i64 2, .int .u64 0, .slice (some ⟨wr.heap.size + 1, 0, none⟩) 3 3] 38)).alloc (.cells #[.int .u8 (bv x8), .int .u8 2, .int .u8 3] 5)).heap[wr.heap.size]? = some (.cells #[.int .i64 no, .int .i64 2, .int .u64 (0), .slice (some ⟨wr.heap.size + 1, 0, none⟩) 3 3] 38 (0, 0)) := hp2_0 wr _ _
          have hbn : Below ((wr.alloc (.cells #[.int .i64 no, .int .i64 2, .int .u64 0, .slice (some ⟨wr.heap.size + 1, 0, none⟩) 3 3] 38)).alloc (.cells #[.int .u8 (bv x8), .int .u8 2, .int .u8 3] 5)).heap.size ((wr.alloc (.cells #[.int .i64 no, .int .i64 2, .int .u64 0, .slice (some ⟨wr.heap.size + 1, 0, none⟩) 3 3] 38)).alloc (.cells #[.int .u8 (bv x8), .int .u8 2, .int .u8 3] 5)) (((wr.alloc (.cells #[.int .i64 no, .int .i64 2, .int .u64 0, .slice (some ⟨wr.heap.size + 1, 0, none⟩) 3 3] 38)).alloc (.cells #[.int .u8 (bv x8), .int .u8 2, .int .u8 3] 5)).alloc (.cells #[.int .i64 no, .int .i64 2, .int .u64 (0), .slice (some ⟨wr.heap.size + 1, 0, none⟩) 3 3] 38)) := (Below.refl _ _).alloc (Nat.le_refl _) _
          replace r0 := keep hbn (keep hbX r0)
          replace rX := keep hbn rX
          replace hw := Below.after (Below.after hw hbX) hbn
          replace hu3 := hu3.keep hbn
          clear hbn hbX
          rw [size_alloc1, size_alloc1] at hF1
          have cX := a_encode [⟨no, 2, 0, [x8, 2#8, 3#8]⟩] _ _ hF1
          rw [her, heo] at cX
          clear hF1
          go_wp2_with (fail)
          refine cX.mono ?_
          rintro e_ wE ⟨x1, rfl, hx1, hb⟩
          replace r0 := keep hb r0
          replace rX := keep hb rX
          replace hw := Below.after hw hb
          replace hu3 := hu3.keep hb
          clear cX hb c0 c1 c2 c3
          generalize wr.heap.size = gx at *
          have cX := there_back her hok1 wE _ _ hx1
          go_wp2_with (fail)
          refine cX.mono ?_
          rintro e_ wF ⟨u1, us1, rfl, hU, hb⟩
          replace r0 := keep hb r0
          replace rX := keep hb rX
          replace hw := Below.after hw hb
          replace hu3 := hu3.keep hb
          clear cX hb hx1
          have hUF := hU.fds (by simp) (oks_i hok1)
          have hF2 := fds_one wF ⟨no, 2, 0, [x8, 2#8, 3#8]⟩ (.slice (some ⟨gx + 1, 0, none⟩) 3 3) hu3 hfok
          have hbn : Below wF.heap.size wF (wF.alloc (.cells #[.int .i64 no, .int .i64 2, .int .u64 (0), .slice (some ⟨gx + 1, 0, none⟩) 3 3] 38)) := (Below.refl _ _).alloc (Nat.le_refl _) _
          have cX := l_alike [⟨no, 2, 0, [x8, 2#8, 3#8]⟩] _ _ _ (hUF.keep hbn) hF2
          replace r0 := keep hbn r0
          replace hw := Below.after hw hbn
          clear hU hUF hF2 hbn
          go_wp2_with (first | (refine wpList_load_want rfl 38 _ rfl gx rfl 38 #[.int .i64 no, .int .i64 2, .int .u64 (0), .slice (some ⟨gx + 1, 0, none⟩) 3 3] (0, 0) _ rX Try.underlying38 rfl infoF ?_) | fail)
          refine cX.mono ?_
          rintro e_ wG ⟨rfl, hb⟩
          replace r0 := keep hb r0
          replace hw := Below.after hw hb
          clear cX hb rX
          go_wp2_with (fail)
          refine ⟨⟨4, by omega, by go_num, r0, hw⟩, ?_⟩
          simp [intOf]
  · have he2 : (eer fs == 0) = false := by simpa using he
    have cX := a_encode fs W v hB
    generalize eer fs = E at *
    go_wp2_with (fail)
    refine cX.mono ?_
    rintro e_ w1 ⟨x, rfl, hx, hb⟩
    have hw := hb
    replace hB := hB.keep hb
    clear hb cX
    clear hx hok hlen he
    clear hB
    by_cases hr : no < 1 ∨ 536870911 < no
    · have hd : (decide (no < 1) || decide (no > 536870911)) = true := by simpa using hr
      by_cases hr1 : no < 1
      · have d1 : decide (no < 1) = true := by simpa using hr1
        go_wp2_with (fail)
        go_ret
        exact ⟨rfl, hw⟩
      · have d1 : decide (no < 1) = false := by simpa using hr1
        have d2 : decide (no > 536870911) = true := by simp; omega
        go_wp2_with (fail)
        go_ret
        exact ⟨rfl, hw⟩
    have d1 : decide (no < 1) = false := by simp; omega
    have d2 : decide (no > 536870911) = false := by simp; omega
    go_wp2_with (fail)
    have r0 := hp1_0 w1 (.cells #[.int .i64 0, .int .i64 1, .int .i64 5, .int .i64 2] 55)
    replace hw := Below.after hw (show Below w1.heap.size w1 (w1.alloc (.cells #[.int .i64 0, .int .i64 1, .int .i64 5, .int .i64 2] 55)) from (Below.refl _ _).alloc (Nat.le_refl _) _)
    generalize w1.alloc (.cells #[.int .i64 0, .int .i64 1, .int .i64 5, .int .i64 2] 55) = wK at *
    generalize w1.heap.size = g at *
    go_loopw [13] (fun i wr => ∃ j : Nat, j ≤ 4 ∧ i = .int .i64 (j : Int) ∧ wr.heap[g]? = some (.cells #[.int .i64 0, .int .i64 1, .int .i64 5, .int .i64 2] 55 (0, 0)) ∧ Below W.heap.size W wr) (fun i _ => 4 - (intOf i).toNat)
    case atStart => exact ⟨0, by omega, rfl, r0, hw⟩
    case round =>
      clear r0 hw
      obtain ⟨j, hj, rfl, r0, hw⟩ := hrel
      have hgl := lt_of_row r0
      have c0 : wr.cell? ⟨g, 0, none⟩ = some (.int .i64 0) := by rw [cell_of_row _ g 0 _ _ _ r0]; rfl
      have c1 : wr.cell? ⟨g, 1, none⟩ = some (.int .i64 1) := by rw [cell_of_row _ g 1 _ _ _ r0]; rfl
      have c2 : wr.cell? ⟨g, 2, none⟩ = some (.int .i64 5) := by rw [cell_of_row _ g 2 _ _ _ r0]; rfl
      have c3 : wr.cell? ⟨g, 3, none⟩ = some (.int .i64 2) := by rw [cell_of_row _ g 3 _ _ _ r0]; rfl
      by_cases h4 : j = 4
      · subst h4
        go_wp2_with (fail)
        go_ret
        exact ⟨rfl, hw⟩
      · have hjj : j = 0 ∨ j = 1 ∨ j = 2 ∨ j = 3 := by omega
        rcases hjj with rfl | rfl | rfl | rfl
        · skip
          have hfok : Fok ⟨no, 0, n, []⟩ := ⟨hn, by simp, by show _ ≤ no; omega, by show no ≤ _; omega⟩
          have her : eer [⟨no, 0, n, []⟩] = 0 := one_er (by unfold hck; rw [if_neg (by simp only; omega), if_pos (.inl rfl)]) (by simp [fits]) (by show (en n).length ≤ 100; have := en_ten hn; omega) (by show 8 * no.toNat + 0 < _; omega)
          have heo : eout [⟨no, 0, n, []⟩] = ebs [⟨no, 0, n, []⟩] := if_pos her
          have hok1 : ∀ f_ ∈ [⟨no, 0, n, []⟩], Fok f_ := fun f_ h_ => by rw [List.mem_singleton.1 h_]; exact hfok
          have hF1 := fds_one (wr.alloc (.cells #[.int .i64 no, .int .i64 0, .int .u64 (n : Int), .slice none 0 0] 38)) ⟨no, 0, n, []⟩ (.slice none 0 0) (bys_nil (wr.alloc (.cells #[.int .i64 no, .int .i64 0, .int .u64 (n : Int), .slice none 0 0] 38))) hfok
          have hbX : Below wr.heap.size wr (wr.alloc (.cells #[.int .i64 no, .int .i64 0, .int .u64 (n : Int), .slice none 0 0] 38)) := (Below.refl _ _).alloc (Nat.le_refl _) _
          have rX : (wr.alloc (.cells #[.int .i64 no, .int .i64 0, .int .u64 (n : Int), .slice none 0 0] 38)).heap[wr.heap.size]? = some (.cells #[.int .i64 no, .int .i64 0, .int .u64 ((n : Int)), .slice none 0 0] 38 (0, 0)) := hp1_0 wr _
          have hbn : Below (wr.alloc (.cells #[.int .i64 no, .int .i64 0, .int .u64 (n : Int), .slice none 0 0] 38)).heap.size (wr.alloc (.cells #[.int .i64 no, .int .i64 0, .int .u64 (n : Int), .slice none 0 0] 38)) ((wr.alloc (.cells #[.int .i64 no, .int .i64 0, .int .u64 (n : Int), .slice none 0 0] 38)).alloc (.cells #[.int .i64 no, .int .i64 0, .int .u64 ((n : Int)), .slice none 0 0] 38)) := (Below.refl _ _).alloc (Nat.le_refl _) _
          replace r0 := keep hbn (keep hbX r0)
          replace rX := keep hbn rX
          replace hw := Below.after (Below.after hw hbX) hbn
          clear hbn hbX
          rw [size_alloc1] at hF1
          have cX := a_encode [⟨no, 0, n, []⟩] _ _ hF1
          rw [her, heo] at cX
          clear hF1
          go_wp2_with (fail)
          refine cX.mono ?_
          rintro e_ wE ⟨x1, rfl, hx1, hb⟩
          replace r0 := keep hb r0
          replace rX := keep hb rX
          replace hw := Below.after hw hb
          clear cX hb c0 c1 c2 c3
          generalize wr.heap.size = gx at *
          have cX := there_back her hok1 wE _ _ hx1
          go_wp2_with (fail)
          refine cX.mono ?_
          rintro e_ wF ⟨u1, us1, rfl, hU, hb⟩
          replace r0 := keep hb r0
          replace rX := keep hb rX
          replace hw := Below.after hw hb
          clear cX hb hx1
          have hUF := hU.fds (by simp) (oks_i hok1)
          have hF2 := fds_one wF ⟨no, 0, n, []⟩ (.slice none 0 0) (bys_nil wF) hfok
          have hbn : Below wF.heap.size wF (wF.alloc (.cells #[.int .i64 no, .int .i64 0, .int .u64 ((n : Int)), .slice none 0 0] 38)) := (Below.refl _ _).alloc (Nat.le_refl _) _
          have cX := l_alike [⟨no, 0, n, []⟩] _ _ _ (hUF.keep hbn) hF2
          replace r0 := keep hbn r0
          replace hw := Below.after hw hbn
          clear hU hUF hF2 hbn
          go_wp2_with (first | (refine wpList_load_want rfl 38 _ rfl gx rfl 38 #[.int .i64 no, .int .i64 0, .int .u64 ((n : Int)), .slice none 0 0] (0, 0) _ rX Try.underlying38 rfl infoF ?_) | fail)
          refine cX.mono ?_
          rintro e_ wG ⟨rfl, hb⟩
          replace r0 := keep hb r0
          replace hw := Below.after hw hb
          clear cX hb rX
          go_wp2_with (fail)
          refine ⟨⟨1, by omega, by go_num, r0, hw⟩, ?_⟩
          simp [intOf]
        · skip
          have hfok : Fok ⟨no, 1, n, []⟩ := ⟨hn, by simp, by show _ ≤ no; omega, by show no ≤ _; omega⟩
          have her : eer [⟨no, 1, n, []⟩] = 0 := one_er (by unfold hck; rw [if_neg (by simp only; omega), if_pos (.inr (.inl rfl))]) (by simp [fits]) (by show (fx 8 n).length ≤ 100; rw [fx_len]; omega) (by show 8 * no.toNat + 1 < _; omega)
          have heo : eout [⟨no, 1, n, []⟩] = ebs [⟨no, 1, n, []⟩] := if_pos her
          have hok1 : ∀ f_ ∈ [⟨no, 1, n, []⟩], Fok f_ := fun f_ h_ => by rw [List.mem_singleton.1 h_]; exact hfok
          have hF1 := fds_one (wr.alloc (.cells #[.int .i64 no, .int .i64 1, .int .u64 (n : Int), .slice none 0 0] 38)) ⟨no, 1, n, []⟩ (.slice none 0 0) (bys_nil (wr.alloc (.cells #[.int .i64 no, .int .i64 1, .int .u64 (n : Int), .slice none 0 0] 38))) hfok
          have hbX : Below wr.heap.size wr (wr.alloc (.cells #[.int .i64 no, .int .i64 1, .int .u64 (n : Int), .slice none 0 0] 38)) := (Below.refl _ _).alloc (Nat.le_refl _) _
          have rX : (wr.alloc (.cells #[.int .i64 no, .int .i64 1, .int .u64 (n : Int), .slice none 0 0] 38)).heap[wr.heap.size]? = some (.cells #[.int .i64 no, .int .i64 1, .int .u64 ((n : Int)), .slice none 0 0] 38 (0, 0)) := hp1_0 wr _
          have hbn : Below (wr.alloc (.cells #[.int .i64 no, .int .i64 1, .int .u64 (n : Int), .slice none 0 0] 38)).heap.size (wr.alloc (.cells #[.int .i64 no, .int .i64 1, .int .u64 (n : Int), .slice none 0 0] 38)) ((wr.alloc (.cells #[.int .i64 no, .int .i64 1, .int .u64 (n : Int), .slice none 0 0] 38)).alloc (.cells #[.int .i64 no, .int .i64 1, .int .u64 ((n : Int)), .slice none 0 0] 38)) := (Below.refl _ _).alloc (Nat.le_refl _) _
          replace r0 := keep hbn (keep hbX r0)
          replace rX := keep hbn rX
          replace hw := Below.after (Below.after hw hbX) hbn
          clear hbn hbX
          rw [size_alloc1] at hF1
          have cX := a_encode [⟨no, 1, n, []⟩] _ _ hF1
          rw [her, heo] at cX
          clear hF1
          go_wp2_with (fail)
          refine cX.mono ?_
          rintro e_ wE ⟨x1, rfl, hx1, hb⟩
          replace r0 := keep hb r0
          replace rX := keep hb rX
          replace hw := Below.after hw hb
          clear cX hb c0 c1 c2 c3
          generalize wr.heap.size = gx at *
          have cX := there_back her hok1 wE _ _ hx1
          go_wp2_with (fail)
          refine cX.mono ?_
          rintro e_ wF ⟨u1, us1, rfl, hU, hb⟩
          replace r0 := keep hb r0
          replace rX := keep hb rX
          replace hw := Below.after hw hb
          clear cX hb hx1
          have hUF := hU.fds (by simp) (oks_i hok1)
          have hF2 := fds_one wF ⟨no, 1, n, []⟩ (.slice none 0 0) (bys_nil wF) hfok
          have hbn : Below wF.heap.size wF (wF.alloc (.cells #[.int .i64 no, .int .i64 1, .int .u64 ((n : Int)), .slice none 0 0] 38)) := (Below.refl _ _).alloc (Nat.le_refl _) _
          have cX := l_alike [⟨no, 1, n, []⟩] _ _ _ (hUF.keep hbn) hF2
          replace r0 := keep hbn r0
          replace hw := Below.after hw hbn
          clear hU hUF hF2 hbn
          go_wp2_with (first | (refine wpList_load_want rfl 38 _ rfl gx rfl 38 #[.int .i64 no, .int .i64 1, .int .u64 ((n : Int)), .slice none 0 0] (0, 0) _ rX Try.underlying38 rfl infoF ?_) | fail)
          refine cX.mono ?_
          rintro e_ wG ⟨rfl, hb⟩
          replace r0 := keep hb r0
          replace hw := Below.after hw hb
          clear cX hb rX
          go_wp2_with (fail)
          refine ⟨⟨2, by omega, by go_num, r0, hw⟩, ?_⟩
          simp [intOf]
        · obtain ⟨m, hm, hm2⟩ : ∃ m : Nat, (n : Int) % 4294967296 = (m : Int) ∧ m ≤ 4294967295 := ⟨n % 4294967296, by omega, by omega⟩
          have hfok : Fok ⟨no, 5, m, []⟩ := ⟨by show m < _; omega, by simp, by show _ ≤ no; omega, by show no ≤ _; omega⟩
          have her : eer [⟨no, 5, m, []⟩] = 0 := one_er (by unfold hck; rw [if_neg (by simp only; omega), if_pos (.inr (.inr (.inr rfl)))]) (by simp [fits]; omega) (by show (fx 4 m).length ≤ 100; rw [fx_len]; omega) (by show 8 * no.toNat + 5 < _; omega)
          have heo : eout [⟨no, 5, m, []⟩] = ebs [⟨no, 5, m, []⟩] := if_pos her
          have hok1 : ∀ f_ ∈ [⟨no, 5, m, []⟩], Fok f_ := fun f_ h_ => by rw [List.mem_singleton.1 h_]; exact hfok
          have hF1 := fds_one (wr.alloc (.cells #[.int .i64 no, .int .i64 5, .int .u64 (m : Int), .slice none 0 0] 38)) ⟨no, 5, m, []⟩ (.slice none 0 0) (bys_nil (wr.alloc (.cells #[.int .i64 no, .int .i64 5, .int .u64 (m : Int), .slice none 0 0] 38))) hfok
          have hbX : Below wr.heap.size wr (wr.alloc (.cells #[.int .i64 no, .int .i64 5, .int .u64 (m : Int), .slice none 0 0] 38)) := (Below.refl _ _).alloc (Nat.le_refl _) _
          have rX : (wr.alloc (.cells #[.int .i64 no, .int .i64 5, .int .u64 (m : Int), .slice none 0 0] 38)).heap[wr.heap.size]? = some (.cells #[.int .i64 no, .int .i64 5, .int .u64 ((m : Int)), .slice none 0 0] 38 (0, 0)) := hp1_0 wr _
          have hbn : Below (wr.alloc (.cells #[.int .i64 no, .int .i64 5, .int .u64 (m : Int), .slice none 0 0] 38)).heap.size (wr.alloc (.cells #[.int .i64 no, .int .i64 5, .int .u64 (m : Int), .slice none 0 0] 38)) ((wr.alloc (.cells #[.int .i64 no, .int .i64 5, .int .u64 (m : Int), .slice none 0 0] 38)).alloc (.cells #[.int .i64 no, .int .i64 5, .int .u64 ((m : Int)), .slice none 0 0] 38)) := (Below.refl _ _).alloc (Nat.le_refl _) _
          replace r0 := keep hbn (keep hbX r0)
          replace rX := keep hbn rX
          replace hw := Below.after (Below.after hw hbX) hbn
          clear hbn hbX
          rw [size_alloc1] at hF1
          have cX := a_encode [⟨no, 5, m, []⟩] _ _ hF1
          rw [her, heo] at cX
          clear hF1
          go_wp2_with (fail)
          refine cX.mono ?_
          rintro e_ wE ⟨x1, rfl, hx1, hb⟩
          replace r0 := keep hb r0
          replace rX := keep hb rX
          replace hw := Below.after hw hb
          clear cX hb c0 c1 c2 c3
          generalize wr.heap.size = gx at *
          have cX := there_back her hok1 wE _ _ hx1
          go_wp2_with (fail)
          refine cX.mono ?_
          rintro e_ wF ⟨u1, us1, rfl, hU, hb⟩
          replace r0 := keep hb r0
          replace rX := keep hb rX
          replace hw := Below.after hw hb
          clear cX hb hx1
          have hUF := hU.fds (by simp) (oks_i hok1)
          have hF2 := fds_one wF ⟨no, 5, m, []⟩ (.slice none 0 0) (bys_nil wF) hfok
          have hbn : Below wF.heap.size wF (wF.alloc (.cells #[.int .i64 no, .int .i64 5, .int .u64 ((m : Int)), .slice none 0 0] 38)) := (Below.refl _ _).alloc (Nat.le_refl _) _
          have cX := l_alike [⟨no, 5, m, []⟩] _ _ _ (hUF.keep hbn) hF2
          replace r0 := keep hbn r0
          replace hw := Below.after hw hbn
          clear hU hUF hF2 hbn
          go_wp2_with (first | (refine wpList_load_want rfl 38 _ rfl gx rfl 38 #[.int .i64 no, .int .i64 5, .int .u64 ((m : Int)), .slice none 0 0] (0, 0) _ rX Try.underlying38 rfl infoF ?_) | fail)
          refine cX.mono ?_
          rintro e_ wG ⟨rfl, hb⟩
          replace r0 := keep hb r0
          replace hw := Below.after hw hb
          clear cX hb rX
          go_wp2_with (fail)
          refine ⟨⟨3, by omega, by go_num, r0, hw⟩, ?_⟩
          simp [intOf]
        · obtain ⟨x8, hx8⟩ : ∃ x8 : B, (n : Int) % 256 = bv x8 := ⟨BitVec.ofNat 8 n, by simp [bv]⟩
          have hfok : Fok ⟨no, 2, 0, [x8, 2#8, 3#8]⟩ := ⟨by show 0 < _; omega, by simp, by show _ ≤ no; omega, by show no ≤ _; omega⟩
          have her : eer [⟨no, 2, 0, [x8, 2#8, 3#8]⟩] = 0 := one_er (by unfold hck; rw [if_neg (by simp only; omega), if_pos (.inr (.inr (.inl rfl)))]) (by simp [fits]) (by show (itm [x8, 2#8, 3#8]).length ≤ 100; rw [itm, List.length_append]; have := en_ten (n := [x8, 2#8, 3#8].length) (by simp); simp only [List.length_cons, List.length_nil] at *; omega) (by show 8 * no.toNat + 2 < _; omega)
          have heo : eout [⟨no, 2, 0, [x8, 2#8, 3#8]⟩] = ebs [⟨no, 2, 0, [x8, 2#8, 3#8]⟩] := if_pos her
          have hok1 : ∀ f_ ∈ [⟨no, 2, 0, [x8, 2#8, 3#8]⟩], Fok f_ := fun f_ h_ => by rw [List.mem_singleton.1 h_]; exact hfok
          have hu3 : BysB ((wr.alloc (.cells #[.int .i64 no, .int .i64 2, .int .u64 0, .slice (some ⟨wr.heap.size + 1, 0, none⟩) 3 3] 38)).alloc (.cells #[.int .u8 (bv x8), .int .u8 2, .int .u8 3] 5)) (.slice (some ⟨wr.heap.size + 1, 0, none⟩) 3 3) [x8, 2#8, 3#8] := ⟨Bys.of_row (l := bl [x8, 2#8, 3#8]) (hp2_1 wr (.cells #[.int .i64 no, .int .i64 2, .int .u64 0, .slice (some ⟨wr.heap.size + 1, 0, none⟩) 3 3] 38) (.cells #[.int .u8 (bv x8), .int .u8 2, .int .u8 3] 5)) (by simp [bl]) (bl_bnd _) 3, by simp, fun a l c e h => by cases e; cases h⟩
          have hF1 := fds_one ((wr.alloc (.cells #[.int .i64 no, .int .i64 2, .int .u64 0, .slice (some ⟨wr.heap.size + 1, 0, none⟩) 3 3] 38)).alloc (.cells #[.int .u8 (bv x8), .int .u8 2, .int .u8 3] 5)) ⟨no, 2, 0, [x8, 2#8, 3#8]⟩ (.slice (some ⟨wr.heap.size + 1, 0, none⟩) 3 3) hu3 hfok
          have hbX : Below wr.heap.size wr ((wr.alloc (.cells #[.int .i64 no, .int .i64 2, .int .u64 0, .slice (some ⟨wr.heap.size + 1, 0, none⟩) 3 3] 38)).alloc (.cells #[.int .u8 (bv x8), .int .u8 2, .int .u8 3] 5)) := ((Below.refl _ _).alloc (Nat.le_refl _) _).alloc (by simp) _
          have rX : ((wr.alloc (.cells #[.int .i64 no, .int .i64 2, .int .u64 0, .slice (some ⟨wr.heap.size + 1, 0, none⟩) 3 3] 38)).alloc (.cells #[.int .u8 (bv x8), .int .u8 2, .int .u8 3] 5)).heap[wr.heap.size]? = some (.cells #[.int .i64 no, .int .i64 2, .int .u64 (0), .slice (some ⟨wr.heap.size + 1, 0, none⟩) 3 3] 38 (0, 0)) := hp2_0 wr _ _
          have hbn : Below ((wr.alloc (.cells #[.int .i64 no, .int .i64 2, .int .u64 0, .slice (some ⟨wr.heap.size + 1, 0, none⟩) 3 3] 38)).alloc (.cells #[.int .u8 (bv x8), .int .u8 2, .int .u8 3] 5)).heap.size ((wr.alloc (.cells #[.int .i64 no, .int .i64 2, .int .u64 0, .slice (some ⟨wr.heap.size + 1, 0, none⟩) 3 3] 38)).alloc (.cells #[.int .u8 (bv x8), .int .u8 2, .int .u8 3] 5)) (((wr.alloc (.cells #[.int .i64 no, .int .i64 2, .int .u64 0, .slice (some ⟨wr.heap.size + 1, 0, none⟩) 3 3] 38)).alloc (.cells #[.int .u8 (bv x8), .int .u8 2, .int .u8 3] 5)).alloc (.cells #[.int .i64 no, .int .i64 2, .int .u64 (0), .slice (some ⟨wr.heap.size + 1, 0, none⟩) 3 3] 38)) := (Below.refl _ _).alloc (Nat.le_refl _) _
          replace r0 := keep hbn (keep hbX r0)
          replace rX := keep hbn rX
          replace hw := Below.after (Below.after hw hbX) hbn
          replace hu3 := hu3.keep hbn
          clear hbn hbX
          rw [size_alloc1, size_alloc1] at hF1
          have cX := a_encode [⟨no, 2, 0, [x8, 2#8, 3#8]⟩] _ _ hF1
          rw [her, heo] at cX
          clear hF1
          go_wp2_with (fail)
          refine cX.mono ?_
          rintro e_ wE ⟨x1, rfl, hx1, hb⟩
          replace r0 := keep hb r0
          replace rX := keep hb rX
          replace hw := Below.after hw hb
          replace hu3 := hu3.keep hb
          clear cX hb c0 c1 c2 c3
          generalize wr.heap.size = gx at *
          have cX := there_back her hok1 wE _ _ hx1
          go_wp2_with (fail)
          refine cX.mono ?_
          rintro e_ wF ⟨u1, us1, rfl, hU, hb⟩
          replace r0 := keep hb r0
          replace rX := keep hb rX
          replace hw := Below.after hw hb
          replace hu3 := hu3.keep hb
          clear cX hb hx1
          have hUF := hU.fds (by simp) (oks_i hok1)
          have hF2 := fds_one wF ⟨no, 2, 0, [x8, 2#8, 3#8]⟩ (.slice (some ⟨gx + 1, 0, none⟩) 3 3) hu3 hfok
          have hbn : Below wF.heap.size wF (wF.alloc (.cells #[.int .i64 no, .int .i64 2, .int .u64 (0), .slice (some ⟨gx + 1, 0, none⟩) 3 3] 38)) := (Below.refl _ _).alloc (Nat.le_refl _) _
          have cX := l_alike [⟨no, 2, 0, [x8, 2#8, 3#8]⟩] _ _ _ (hUF.keep hbn) hF2
          replace r0 := keep hbn r0
          replace hw := Below.after hw hbn
          clear hU hUF hF2 hbn
          go_wp2_with (first | (refine wpList_load_want rfl 38 _ rfl gx rfl 38 #[.int .i64 no, .int .i64 2, .int .u64 (0), .slice (some ⟨gx + 1, 0, none⟩) 3 3] (0, 0) _ rX Try.underlying38 rfl infoF ?_) | fail)
          refine cX.mono ?_
          rintro e_ wG ⟨rfl, hb⟩
          replace r0 := keep hb r0
          replace hw := Below.after hw hb
          clear cX hb rX
          go_wp2_with (fail)
          refine ⟨⟨4, by omega, by go_num, r0, hw⟩, ?_⟩
          simp [intOf]
end Go.Proofs.Ytlglalhddeldbab

