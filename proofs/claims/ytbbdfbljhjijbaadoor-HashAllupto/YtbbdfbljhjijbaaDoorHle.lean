import Derived.Test.YtbbdfbljhjijbaaDoorProg
import Derived.WalkKit
import Derived.WalkSpells
import Derived.WalkLawsBesides
import Derived.Lib.QuietBelow
import Derived.BigQuiet
import Derived.Test.YtbbdfbljhjijbaaDoorKa
import Derived.Test.YtbbdfbljhjijbaaDoorHld
import Derived.Deep.Cut
namespace Go.Proofs.YtbbdfbljhjijbaaDoor
open Go Go.RowKit Go.Sort
attribute [local go_sem] setCell_drewN alloc_drewN

theorem wpList_append_own_want {P : Program} (w : World) {ops : Array Oper} {rest : List Oper} {o : Oper} {a : Act} {Q : Exit → Act → World → Prop} (hw : Region.wanted o (yielded ops a.tmps) = true) (s x : Operand) (t : TypeId)
    (ho : o.op = .call { callee := .builtin .append, args := #[s, x], argTypes := #[t, t] })
    (base : Nat) (e : TypeId) (i : TypeInfo) (z : Value) (ht : P.underlying t = some (.slice e)) (hi : P.info? e = some i) (hz : i.zero = some z)
    (hsize : i.size = 1) (hby : i.bytes = 1) (hzs : z.cells.size = 1)
    (v : Value) (n : Nat) (xs : List Value) (hs : a.eval s = v) (hown : w.ownsRow base e 1 v n xs)
    (ao : Option Addr) (m c : Nat) (news : List Value) (hx : a.eval x = .slice ao m c) (hl : news.length = m * 1) (hnone : ao = none → m = 0 ∧ c = 0) (hnews : ∀ ad, ao = some ad → ∀ j u, news[j]? = some u → w.cell? (ad.add j) = some u) (h1 : ∀ u ∈ news, u.oneCell' = true)
    (h63 : n + m ≤ maxLen) (hbytes : (n + m) * 1 ≤ 140737488355328) (hbase : base ≤ w.heap.size)
    (h : ∀ v' w', w'.ownsRow base e 1 v' (n + m) (xs ++ news) → w.grownBy w' v.ownBlock → wpList P ops Q rest (a.put o.dst v') w') : wpList P ops Q (o :: rest) a w := by
  refine BigFrame.wpList_want hw fun K hK' => ?_
  cases ao with
  | some ad => exact wp_append_own w s x t ho base e i z 1 1 ht hi hz hsize hby hzs (by decide) v n xs hs hown ad m c news hx hl (hnews ad rfl) h1 h63 hbytes hbase (fun v' w' h2 h3 _ => hK' _ _ (h v' w' h2 h3))
  | none =>
    obtain ⟨rfl, rfl⟩ := hnone rfl
    have hn0 : news = [] := List.eq_nil_of_length_eq_zero (by simpa using hl)
    subst hn0
    have hrun := run_append_owned_none (P := P) w base t o.type e i 1 ht hi _ n xs hown
    unfold Oper.wp
    simp [execOp, ho, resolve, invoke, builtin, hs, hx, hrun, Result.andThen]
    exact hK' _ _ (by simpa using h v w (by simpa using hown) (World.grownBy.refl _ _))
/-- Pieces of bytes, as they lie in a world. -/
def Pcs (W : World) (v : Value) (ps : List (List Int)) : Prop := ∃ ao cap, v = .slice ao ps.length cap ∧ ps.length ≤ 9223372036854775807 ∧ ∀ i, i < ps.length → ∃ b off u uc, ao = some ⟨b, off, none⟩ ∧ b < W.heap.size ∧ W.cell? ⟨b, off + i, none⟩ = some (.slice u (ps.getD i []).length uc) ∧ Bys W (.slice u (ps.getD i []).length uc) (ps.getD i []) ∧ (u = none → uc = 0)
/-- Bools, as they lie in a world. -/
def Bls (W : World) (v : Value) (qs : List Bool) : Prop := ∃ ao cap, v = .slice ao qs.length cap ∧ qs.length ≤ 9223372036854775807 ∧ ∀ i, i < qs.length → ∃ b off, ao = some ⟨b, off, none⟩ ∧ b < W.heap.size ∧ W.cell? ⟨b, off + i, none⟩ = some (.bool (qs.getD i false))
def flat (ps : List (List Int)) (k : Nat) : List Int := (ps.take k).flatten
theorem flat_next (ps : List (List Int)) (k : Nat) (hk : k < ps.length) : flat ps (k + 1) = flat ps k ++ ps.getD k [] := by
  unfold flat
  rw [List.take_add_one, List.flatten_append, List.getElem?_eq_getElem hk, List.getD_eq_getElem?_getD, List.getElem?_eq_getElem hk]
  simp
theorem flat_all (ps : List (List Int)) : flat ps ps.length = ps.flatten := by unfold flat; rw [List.take_length]
theorem flat_len (ps : List (List Int)) (k : Nat) : (flat ps k).length ≤ ps.flatten.length := by
  have h := congrArg List.flatten (List.take_append_drop k ps)
  rw [List.flatten_append] at h
  have := congrArg List.length h
  rw [List.length_append] at this
  unfold flat
  omega
theorem nilN (w : World) : BysN w (.slice none 0 0) [] := ⟨⟨none, 0, rfl, by decide, fun j hj => by simp at hj, by simp⟩, by decide, fun a l c h _ => by cases h; rfl⟩
set_option maxRecDepth 100000 in
set_option maxHeartbeats 8000000 in
theorem pieces_any (ps : List (List Int)) (qs : List Bool) (w : World) (vp vq : Value) (hS : Sta w) (hK : Kon w) (hP : Pcs w vp ps) (hQ : Bls w vq qs) (hsz : ps.flatten.length ≤ 4194304) : Calls Tryd.prog 6 #[vp, vq] w fun e w' => e = .returned (.bool true) ∧ Below w.heap.size w w' := by
  obtain ⟨pao, pcap, rfl, hpl, hpc⟩ := hP
  obtain ⟨qao, qcap, rfl, hql, hqc⟩ := hQ
  have hk1 := hK.sz
  have hfl := flat_len ps
  have hfn := flat_next ps
  have hfa := flat_all ps
  have hpz : ∀ k, k < ps.length → ∀ z ∈ ps.getD k [], 0 ≤ z ∧ z < 256 := fun k hk => by
    obtain ⟨_, _, _, _, _, _, _, ⟨_, _, _, _, _, h⟩, _⟩ := hpc k hk
    exact h
  have hpn : ∀ k, k < ps.length → (ps.getD k []).length ≤ 4194304 := fun k hk => by
    have h1 := hfl (k + 1)
    rw [hfn k hk, List.length_append] at h1
    omega
  obtain ⟨i0, hi, hz0, hz1, hz2⟩ := info8
  obtain ⟨E, eE⟩ : ∃ E : List Int, E = [] := ⟨[], rfl⟩
  have heq0 := eqSum E
  have cA0 := a_sum E
  have cR0 := r_sum E
  generalize enp : ps.length = np at *
  generalize enq : qs.length = nq at *
  go_enter Tryd.func6, Tryd.ntmps6
  go_wp2_with (fail)
  refine (a_new w hS).mono ?_
  rintro e_ w1 ⟨rfl, rH, hw⟩
  rw [← eE] at rH
  replace eE := hide eE
  generalize eg : w.heap.size = gH at *
  have hN : BysN w1 (.slice none 0 0) E := by rw [eE.out]; exact nilN w1
  go_wp2_with (fail)
  refine (cA0 w1 (.slice none 0 0) (hS.belowN (n := gH) (by omega) hw) (hK.belowN (n := gH) (by omega) hw) hN.1 (fun a l c h => by cases h; exact Nat.le_refl _) (by rw [eE.out]; simp)).mono ?_
  rintro e_ w2 ⟨rfl, hb⟩
  have lH := lt_of_row rH
  replace rH := keep hb rH
  replace hw := hw.trans (hb.mono (by omega))
  clear hb hN
  have hN : BysN w2 (.slice none 0 0) E := by rw [eE.out]; exact nilN w2
  go_wp2_with (fail)
  refine (cR0 w2 (.slice none 0 0) hN).mono ?_
  rintro e_ w3 ⟨rfl, hb⟩
  have lH2 := lt_of_row rH
  replace rH := keep hb rH
  replace hw := hw.trans (hb.mono (by omega))
  clear hb hN cA0 cR0
  have lH3 := lt_of_row rH
  have hown := own_empty w3
  have hba : Below w3.heap.size w3 (w3.alloc (.cells #[] 5)) := (Below.refl _ _).alloc (Nat.le_refl _) _
  replace rH := keep hba rH
  replace hw := hw.trans (hba.mono (by omega))
  have hBs := hba.size
  clear hba
  go_wp2
  clear heq0
  rw [eE.out] at rH
  generalize w3.alloc (.cells #[] 5) = w4 at *
  generalize w3.heap.size = B at *
  go_loopw [6, 7] (fun x i wr => ∃ k : Nat, k ≤ np ∧ i = .int .i64 k ∧ wr.heap[gH]? = some (.cells (hst (flat ps k)) 63 (0, 0)) ∧ wr.ownsRow B 5 1 x (flat ps k).length ((flat ps k).map (Value.int .u8)) ∧ (∀ z ∈ flat ps k, 0 ≤ z ∧ z < 256) ∧ B ≤ wr.heap.size ∧ Below gH w wr) (fun _ i _ => np - (intOf i).toNat)
  case atStart => exact ⟨0, by omega, rfl, rH, hown, (by intro z h; cases h), hBs, hw⟩
  case round =>
    clear rH hown hw hBs
    obtain ⟨k, hk, rfl, rH, hown, hfz, hBs, hw⟩ := hrel
    obtain ⟨xo, xcap, rfl⟩ := slen_own hown
    have hfk := hfl k
    by_cases hlt : k < np
    · have hd : decide ((k : Int) < (np : Int)) = true := by simp; omega
      obtain ⟨pb, poff, u, uc, rfl, hpb, hpcell, hBk, hun⟩ := hpc k hlt
      have hPz := hpz k hlt
      have hPn := hpn k hlt
      have hF1 := hfn k hlt
      have hfk1 := hfl (k + 1)
      rw [hF1, List.length_append] at hfk1
      have hK' : ∀ W, Below gH w W → Kon W := fun W h => hK.belowN (n := gH) (by omega) h
      have hS' : ∀ W, Below gH w W → Sta W := fun W h => hS.belowN (n := gH) (by omega) h
      have hBk' : ∀ W, Below gH w W → Bys W (.slice u (ps.getD k []).length uc) (ps.getD k []) := fun W h => hBk.keep (by rw [eg]; exact h)
      have hpc' : ∀ W, Below gH w W → W.cell? ⟨pb, poff + k, none⟩ = some (.slice u (ps.getD k []).length uc) := fun W h => (h.cell (p := ⟨pb, poff + k, none⟩) hpb).trans hpcell
      have hqc' : ∀ W, Below gH w W → ∀ i, i < nq → ∃ b off, qao = some ⟨b, off, none⟩ ∧ W.cell? ⟨b, off + i, none⟩ = some (.bool (qs.getD i false)) := fun W h i hi => by
        obtain ⟨b, off, e, h1, h2⟩ := hqc i hi
        exact ⟨b, off, e, (h.cell (p := ⟨b, off + i, none⟩) h1).trans h2⟩
      clear hpc hpz hpn hfn hfl hBk hpcell hqc
      replace hF1 := hide hF1
      replace hK' := hide hK'
      replace hS' := hide hS'
      replace hBk' := hide hBk'
      replace hpc' := hide hpc'
      replace hqc' := hide hqc'
      generalize ps.getD k [] = P at *
      generalize flat ps k = Fk at *
      -- the piece, copied and written
      have hnone8 := bys_none2 (hBk'.out wr hw) hun
      have hlw := lt_of_row rH
      have hcA := hpc'.out (wr.alloc (.cells #[] 5)) (hw.alloc (by omega) _)
      have hba : Below wr.heap.size wr (wr.alloc (.cells #[] 5)) := (Below.refl _ _).alloc (Nat.le_refl _) _
      have hcell_ := bys_cells2 ((hBk'.out wr hw).keep hba)
      have hnone_ := hnone8
      have hoe := own_empty wr
      have hbase_ := hba.size
      go_wp2_with (at_builtin; refine wpList_append_own_any _ rfl (.tmp 24) (.tmp 28) 27 rfl wr.heap.size 5 i0 (.int .u8 0) Tryd.underlying27 hi hz0 hz1 hz2 rfl _ 0 _ rfl hoe u P.length uc (P.map (Value.int .u8)) rfl (by rw [List.length_map]; omega) hnone_ hcell_ (ints_one .u8 _) (by unfold maxLen; omega) (by omega) hbase_ ?_)
      intro v1 w5 own1 hgr
      try simp only [List.nil_append, Nat.zero_add] at own1
      replace hgr : (wr.alloc (.cells #[] 5)).grownBy w5 (some wr.heap.size) := hgr
      have hb : Below wr.heap.size wr w5 := hba.grown hgr hba.size (fun k h => by injection h with h; omega)
      clear hba hcell_ hnone_ hoe hbase_ hgr

      clear hcA
      replace rH := keep hb rH
      have own5 := own_keep hown hb
      have hs5 := hb.size
      replace hw := hw.trans (hb.mono (by omega))
      clear hb hown
      obtain ⟨ao1, cap1, rfl⟩ := slen_own own1
      have cW := a_write Fk P gH w5 _ rH (Bys.of_own own1 (by omega) hPz) (fun a l c h hl => by cases h; have := (own1.lt a.block rfl).1; omega) (own_cap own1) (by omega) (hK'.out _ hw) hfz (by omega)
      go_wp2_with (fail)
      refine cW.mono ?_
      rintro e_ w6 ⟨rfl, rH6, hgr⟩
      have own6 := own5.kept hgr (.inr (by intro e; have := (own5.lt gH e).1; omega))
      have hs6 := hgr.size
      replace hw := hw.grown hgr (by omega) (fun k h => by injection h with h; omega)
      clear cW rH hgr own1 own5
      -- the whole
      have hcB := hpc'.out w6 hw
      have hcell_ := bys_cells2 (hBk'.out w6 hw)
      have hnone_ := hnone8
      have hbase_ : B ≤ w6.heap.size := by omega
      go_wp2_with (at_builtin; refine wpList_append_own_any _ rfl (.tmp 31) (.tmp 35) 27 rfl B 5 i0 (.int .u8 0) Tryd.underlying27 hi hz0 hz1 hz2 rfl _ Fk.length _ rfl own6 u P.length uc (P.map (Value.int .u8)) rfl (by rw [List.length_map]; omega) hnone_ hcell_ (ints_one .u8 _) (by unfold maxLen; omega) (by omega) hbase_ ?_)

      intro x7 w7 own7 hgr
      have lH6 := lt_of_row rH6
      have rH : w7.heap[gH]? = some (.cells (hst (Fk ++ P)) 63 (0, 0)) := (hgr.block gH lH6 (by intro e; have := (own6.lt gH e.symm).1; omega)).trans rH6
      have hs7 := hgr.size
      replace hw := hw.grown hgr (by omega) (fun k h => by have := (own6.lt k h).1; omega)
      have hB7 : B ≤ w7.heap.size := by omega
      clear hcB hcell_ hnone_ hbase_ hgr own6 rH6
      obtain ⟨xo7, xc7, rfl⟩ := slen_own own7
      by_cases hq1 : k < nq
      · have hdq : decide ((k : Int) < (nq : Int)) = true := by simp; omega
        obtain ⟨qb, qoff, rfl, hqcell⟩ := hqc'.out w7 hw k hq1
        generalize qs.getD k false = ask at *
        cases ask
        · go_wp2
          refine ⟨⟨k + 1, by omega, by go_num, by rw [hF1.out]; exact rH, by rw [hF1.out, List.length_append, List.map_append]; exact own7, by rw [hF1.out]; exact both_bd hfz hPz, hB7, hw⟩, ?_⟩
          simp [intOf]; omega
        · have cS := a_hsum (Fk ++ P) gH w7 (hK'.out _ hw) rH (both_bd hfz hPz) (by rw [List.length_append]; omega)
          have heq := eqSum (Fk ++ P)
          rw [← List.map_append] at own7
          have hFl : (Fk ++ P).length = Fk.length + P.length := List.length_append
          go_wp2_with (fail)
          refine cS.mono ?_
          rintro e_ w8 ⟨rfl, hb⟩
          replace rH := keep hb rH
          replace own7 := own_keep own7 hb
          have hs8 := hb.size
          replace hw := hw.trans (hb.mono (by omega))
          replace hB7 : B ≤ w8.heap.size := by omega
          clear hb cS
          have hBx := Bys.of_own own7 (by omega) (both_bd hfz hPz)
          have hnx := bys_none2 hBx (own_nil own7 _ _ _ rfl)
          have hba : Below w8.heap.size w8 (w8.alloc (.cells #[] 5)) := (Below.refl _ _).alloc (Nat.le_refl _) _
          have hcell_ := bys_cells2 ((hBx).keep hba)
          have hnone_ := hnx
          have hoe := own_empty w8
          have hbase_ := hba.size
          go_wp2_with (at_builtin; refine wpList_append_own_want _ rfl (.tmp 50) (.tmp 51) 27 rfl w8.heap.size 5 i0 (.int .u8 0) Tryd.underlying27 hi hz0 hz1 hz2 rfl _ 0 _ rfl hoe xo7 (Fk.length + P.length) xc7 ((Fk ++ P).map (Value.int .u8)) rfl (by rw [List.length_map]; omega) hnone_ hcell_ (ints_one .u8 _) (by unfold maxLen; omega) (by omega) hbase_ ?_)
          intro v9 w9 own9 hgr
          try simp only [List.nil_append, Nat.zero_add] at own9
          replace hgr : (w8.alloc (.cells #[] 5)).grownBy w9 (some w8.heap.size) := hgr
          have hb : Below w8.heap.size w8 w9 := hba.grown hgr hba.size (fun k h => by injection h with h; omega)
          clear hba hcell_ hnone_ hoe hbase_ hgr

          replace rH := keep hb rH
          replace own7 := own_keep own7 hb
          have hs9 := hb.size
          replace hw := hw.trans (hb.mono (by omega))
          replace hB7 : B ≤ w9.heap.size := by omega
          clear hb hBx hnx
          try rw [← List.map_append] at own9
          obtain ⟨ao9, cap9, rfl⟩ := slen_own own9
          have cS2 := a_sum (Fk ++ P) w9 _ (hS'.out _ hw) (hK'.out _ hw) (Bys.of_own own9 (by omega) (both_bd hfz hPz)) (own_cap own9) (by omega)
          go_wp2_with (fail)
          refine cS2.mono ?_
          rintro e_ wa ⟨rfl, hb⟩
          replace rH := keep hb rH
          replace own7 := own_keep own7 hb
          have hsa := hb.size
          replace hw := hw.trans (hb.mono (by omega))
          replace hB7 : B ≤ wa.heap.size := by omega
          clear hb cS2 own9
          rw [List.map_append] at own7
          go_wp2
          refine ⟨⟨k + 1, by omega, by go_num, by rw [hF1.out]; exact rH, by rw [hF1.out, List.length_append, List.map_append]; exact own7, by rw [hF1.out]; exact both_bd hfz hPz, hB7, hw⟩, ?_⟩
          simp [intOf]; omega
      · have hdq : decide ((k : Int) < (nq : Int)) = false := by simp; omega
        go_wp2
        refine ⟨⟨k + 1, by omega, by go_num, by rw [hF1.out]; exact rH, by rw [hF1.out, List.length_append, List.map_append]; exact own7, by rw [hF1.out]; exact both_bd hfz hPz, hB7, hw⟩, ?_⟩
        simp [intOf]; omega
    · obtain rfl : k = np := by omega
      have hd : decide ((k : Int) < (k : Int)) = false := by simp
      have hK' := hK.belowN (n := gH) (by omega) hw
      have hS' := hS.belowN (n := gH) (by omega) hw
      generalize flat ps k = Fk at *
      have heq := eqSum Fk
      clear hpc hpz hpn hfn hfl hqc hfa
      have cS := a_hsum Fk gH wr hK' rH hfz (by omega)
      go_wp2_with (fail)
      refine cS.mono ?_
      rintro e_ w8 ⟨rfl, hb⟩
      have lw := lt_of_row rH
      replace rH := keep hb rH
      replace hown := own_keep hown hb
      have hs8 := hb.size
      replace hw := hw.trans (hb.mono (by omega))
      replace hK' := hK'.below hb
      replace hS' := hS'.below hb
      clear hb cS
      have cS2 := a_sum Fk w8 _ hS' hK' (Bys.of_own hown (by omega) hfz) (own_cap hown) (by omega)
      go_wp2_with (fail)
      refine cS2.mono ?_
      rintro e_ w9 ⟨rfl, hb⟩
      replace rH := keep hb rH
      replace hw := hw.trans (hb.mono (by omega))
      clear hb cS2
      go_wp2_with (fail)
      refine (a_size Fk gH w9 rH).mono ?_
      rintro e_ wa ⟨rfl, hb⟩
      replace hw := hw.trans (hb.mono (by have := lt_of_row rH; omega))
      clear hb
      go_wp2
      go_ret
      exact ⟨rfl, by rw [eg]; exact hw⟩

end Go.Proofs.YtbbdfbljhjijbaaDoor

