import Derived.Test.YtbbdfbljhjijbaaDoorProg
import Derived.WalkKit
import Derived.WalkSpells
import Derived.WalkLawsBesides
import Derived.Lib.QuietBelow
import Derived.BigQuiet
import Derived.Test.YtbbdfbljhjijbaaDoorKa
import Derived.Test.YtbbdfbljhjijbaaDoorHmd
import Derived.Deep.Cut
import Derived.OrdersHeld
import Derived.Deep.RegionHeld3
import Derived.Deep.RegionLaw
import Derived.Deep.AppendLies
namespace Go.Proofs.YtbbdfbljhjijbaaDoor
open Go Go.RowKit Go.Sort
attribute [local go_sem] setCell_drewN alloc_drewN

theorem wpList_load_rng {P : Program} {ops : Array Oper} {rest : List Oper} {o : Oper} {a : Act} {w : World} {Q : Exit → Act → World → Prop} (hw : Region.wanted o (yielded ops a.tmps) = true) (ty : TypeId) (x : Operand) (ho : o.op = .load ty x)
    (g off : Nat) (hx : a.eval x = .pointer (some ⟨g, off, none⟩)) (cs : List Value) (d : TypeDesc) (hr : w.rangeAt g off cs) (hu : P.underlying ty = some d) (hd : d.isRow = true) (hi : (P.info? ty).map (·.size) = some cs.length)
    (h : wpList P ops Q rest (a.put o.dst (.agg cs.toArray)) w) : wpList P ops Q (o :: rest) a w :=
  BigFrame.wpList_want hw fun _ hK => wp_load_mid ty x ho g off hx cs d hr hu hd hi (hK _ _ h)
theorem step_append_any {P : Program} (w : World) {ops : Array Oper} {o : Oper} {a : Act} {K : Act → World → Prop} {Q : Exit → Act → World → Prop} {E : Prop} (hgd : o.guard = none) (s x : Operand) (t : TypeId)
    (ho : o.op = .call { callee := .builtin .append, args := #[s, x], argTypes := #[t, t] })
    (base : Nat) (e : TypeId) (i : TypeInfo) (z : Value) (ht : P.underlying t = some (.slice e)) (hi : P.info? e = some i) (hz : i.zero = some z)
    (hsize : i.size = 1) (hby : i.bytes = 1) (hzs : z.cells.size = 1)
    (v : Value) (n : Nat) (xs : List Value) (hs : a.eval s = v) (hown : w.ownsRow base e 1 v n xs)
    (ao : Option Addr) (m c : Nat) (news : List Value) (hx : a.eval x = .slice ao m c) (hl : news.length = m * 1) (hnone : ao = none → m = 0 ∧ c = 0) (hnews : ∀ ad, ao = some ad → ∀ j u, news[j]? = some u → w.cell? (ad.add j) = some u) (h1 : ∀ u ∈ news, u.oneCell' = true)
    (h63 : n + m ≤ maxLen) (hbytes : (n + m) * 1 ≤ 140737488355328) (hbase : base ≤ w.heap.size)
    (h : ∀ v' w', w'.ownsRow base e 1 v' (n + m) (xs ++ news) → w.grownBy w' v.ownBlock → K (a.put o.dst v') w') : if Region.wanted o (yielded ops a.tmps) = true then Oper.wp P o a w K Q else E := by
  have hw : Region.wanted o (yielded ops a.tmps) = true := by simp [Region.wanted, hgd]
  rw [if_pos hw]
  cases ao with
  | some ad => exact wp_append_own w s x t ho base e i z 1 1 ht hi hz hsize hby hzs (by decide) v n xs hs hown ad m c news hx hl (hnews ad rfl) h1 h63 hbytes hbase (fun v' w' h2 h3 _ => h v' w' h2 h3)
  | none =>
    obtain ⟨rfl, rfl⟩ := hnone rfl
    have hn0 : news = [] := List.eq_nil_of_length_eq_zero (by simpa using hl)
    subst hn0
    have hrun := run_append_owned_none (P := P) w base t o.type e i 1 ht hi _ n xs hown
    unfold Oper.wp
    simp [execOp, ho, resolve, invoke, builtin, hs, hx, hrun, Result.andThen]
    have h_ := h v w (by simpa using hown) (World.grownBy.refl _ _)
    exact h_
theorem own_form {W : World} {b n : Nat} {v : Value} {xs : List Value} (h : W.ownsRow b 5 1 v n xs) : ∃ ao cap, v = .slice ao n cap ∧ (ao = none → cap = 0) ∧ (∀ a, ao = some a → b ≤ a.block ∧ a.block < W.heap.size) := by
  obtain ⟨h1, ⟨rfl, rfl⟩ | ⟨g, cap, cur, rfl, hb, hg, hn, hm, hs, ht⟩⟩ := h
  · exact ⟨none, 0, rfl, fun _ => rfl, fun a h => by cases h⟩
  · exact ⟨_, cap, rfl, (fun h => by cases h), (fun a h => by cases h; exact ⟨hb, lt_of_row hg⟩)⟩
theorem own_block {b n cap : Nat} {ao : Option Addr} (h : ∀ a, ao = some a → b ≤ a.block) : ∀ k, (Value.slice ao n cap).ownBlock = some k → b ≤ k := by
  intro k hk
  cases ao with
  | none => cases hk
  | some a =>
    have : a.block = k := by simpa [Value.ownBlock] using hk
    rw [← this]; exact h a rfl
def h3 (a b c : Nat) : Nat → Nat := fun i => if i = 0 then a else if i = 1 then b else c
theorem h3_cases (a b c : Nat) (i : Nat) (hi : i < 3) : h3 a b c i = a ∨ h3 a b c i = b ∨ h3 a b c i = c := by
  rcases (by omega : i = 0 ∨ i = 1 ∨ i = 2) with rfl | rfl | rfl
  · exact .inl rfl
  · exact .inr (.inl rfl)
  · exact .inr (.inr rfl)
theorem inv_first {w W : World} {g0 g1 g2 gA : Nat} {E : List Int} (eE : E = []) (hw : w.heap.size = g0) (l0 : g0 < g1) (l1 : g1 < g2) (l2 : g2 < gA) (hA : W.heap[gA]? = some (.cells #[.pointer (some ⟨g0, 0, none⟩), .pointer (some ⟨g1, 0, none⟩), .pointer (some ⟨g2, 0, none⟩)] 49 (0, 0))) (hC : W.heap[gA + 1]? = some (.cells #[.slice none 0 0, .slice none 0 0, .slice none 0 0] 50 (0, 0)))
    (r0 : W.heap[g0]? = some (.cells (hst E) 63 (0, 0))) (r1 : W.heap[g1]? = some (.cells (hst E) 63 (0, 0))) (r2 : W.heap[g2]? = some (.cells (hst E) 63 (0, 0))) : Inv (gA + 2) w W gA (gA + 1) (h3 g0 g1 g2) (fun _ => .slice none 0 0) (fun _ => E) (fun _ => E) := by
  have lA := lt_of_row hC
  refine ⟨hA, hC, ⟨by omega, by omega, by omega, by omega, by omega, by omega⟩, fun i hi => ?_, fun i j hi hj hne => ?_, fun i _ => ?_⟩
  · have hz : ∀ z ∈ E, 0 ≤ z ∧ z < 256 := by rw [eE]; intro z h; cases h
    rcases (by omega : i = 0 ∨ i = 1 ∨ i = 2) with rfl | rfl | rfl
    · exact ⟨r0, by show w.heap.size ≤ g0; omega, by show g0 < _; omega, by show g0 ≠ _; omega, by show g0 ≠ _; omega, hz⟩
    · exact ⟨r1, by show w.heap.size ≤ g1; omega, by show g1 < _; omega, by show g1 ≠ _; omega, by show g1 ≠ _; omega, hz⟩
    · exact ⟨r2, by show w.heap.size ≤ g2; omega, by show g2 < _; omega, by show g2 ≠ _; omega, by show g2 ≠ _; omega, hz⟩
  · rcases (by omega : i = 0 ∨ i = 1 ∨ i = 2) with rfl | rfl | rfl <;> rcases (by omega : j = 0 ∨ j = 1 ∨ j = 2) with rfl | rfl | rfl <;> simp [h3] at hne ⊢ <;> omega
  · subst eE
    exact ⟨none, 0, rfl, ⟨none, 0, rfl, (by show ([] : List Int).length ≤ _; decide), fun j hj => by simp at hj, by simp⟩, fun _ => rfl, fun a ha _ => by cases ha⟩
set_option maxRecDepth 100000 in
set_option maxHeartbeats 16000000 in
theorem all_any (ps : List (List Int)) (w : World) (v : Value) (hS : Sta w) (hK : Kon w) (hP : Acs w v ps) (hsz : ps.flatten.length ≤ 4194304) : Calls Tryd.prog 7 #[v] w fun e w' => e = .returned (.bool true) ∧ Below w.heap.size w w' := by
  obtain ⟨pao, pcap, rfl, hpl, hpc⟩ := hP
  have hk1 := hK.sz
  have hfl := flat_len ps
  have hfn := flat_next ps
  obtain ⟨i0, hi, hz0, hz1, hz2⟩ := info8
  obtain ⟨E, eE⟩ : ∃ E : List Int, E = [] := ⟨[], rfl⟩
  have heq0 := eqSum E
  have cR0 := r_sum E
  generalize enp : ps.length = np at *
  go_enter Tryd.func7, Tryd.ntmps7
  go_wp2_with (fail)
  refine (a_new w hS).mono ?_
  rintro e_ w1 ⟨rfl, r0, hw⟩
  generalize eg : w.heap.size = g0 at *
  have l0 := lt_of_row r0
  go_wp2_with (fail)
  refine (a_new w1 (hS.belowN (n := g0) (by omega) hw)).mono ?_
  rintro e_ w2 ⟨rfl, r1, hb⟩
  replace r0 := keep hb r0
  replace hw := hw.trans (hb.mono (by omega))
  clear hb
  generalize eg1 : w1.heap.size = g1 at *
  have l1 := lt_of_row r1
  go_wp2_with (fail)
  refine (a_new w2 (hS.belowN (n := g0) (by omega) hw)).mono ?_
  rintro e_ w3 ⟨rfl, r2, hb⟩
  replace r0 := keep hb r0
  replace r1 := keep hb r1
  replace hw := hw.trans (hb.mono (by omega))
  clear hb
  generalize eg2 : w2.heap.size = g2 at *
  have l2 := lt_of_row r2
  rw [← eE] at r0 r1 r2
  go_wp2
  have hA := hp2_0 w3 (.cells #[.pointer (some ⟨g0, 0, none⟩), .pointer (some ⟨g1, 0, none⟩), .pointer (some ⟨g2, 0, none⟩)] 49) (.cells #[.slice none 0 0, .slice none 0 0, .slice none 0 0] 50)
  have hC := hp2_1 w3 (.cells #[.pointer (some ⟨g0, 0, none⟩), .pointer (some ⟨g1, 0, none⟩), .pointer (some ⟨g2, 0, none⟩)] 49) (.cells #[.slice none 0 0, .slice none 0 0, .slice none 0 0] 50)
  have hb : Below w3.heap.size w3 ((w3.alloc (.cells #[.pointer (some ⟨g0, 0, none⟩), .pointer (some ⟨g1, 0, none⟩), .pointer (some ⟨g2, 0, none⟩)] 49)).alloc (.cells #[.slice none 0 0, .slice none 0 0, .slice none 0 0] 50)) := ((Below.refl _ _).alloc (Nat.le_refl _) _).alloc (by simp) _
  have hI := inv_first eE eg l0 l1 l2 hA hC (keep hb r0) (keep hb r1) (keep hb r2)
  replace hw := hw.trans (hb.mono (by omega))
  clear hb hA hC r0 r1 r2
  replace eE := hide eE
  generalize ((w3.alloc (.cells #[.pointer (some ⟨g0, 0, none⟩), .pointer (some ⟨g1, 0, none⟩), .pointer (some ⟨g2, 0, none⟩)] 49)).alloc (.cells #[.slice none 0 0, .slice none 0 0, .slice none 0 0] 50)) = w4 at *
  generalize w3.heap.size = gA at *
  generalize h3 g0 g1 g2 = hh at *
  have hNil : ∀ W, BysN W (.slice none 0 0) E := fun W => by rw [eE.out]; exact nilN W
  replace hNil := hide hNil
  go_loopw [5] (fun i wr => ∃ k : Nat, k ≤ 3 ∧ i = .int .i64 k ∧ Inv (gA + 2) w wr gA (gA + 1) hh (fun _ => .slice none 0 0) (fun _ => E) (fun _ => E) ∧ Below g0 w wr) (fun i _ => 3 - (intOf i).toNat)
  case atStart => exact ⟨0, by omega, rfl, hI, hw⟩
  case round =>
    clear hI hw
    obtain ⟨k, hk, rfl, hI, hw⟩ := hrel
    by_cases hlt : k < 3
    · have hd : decide ((k : Int) < 3) = true := by simp; omega
      have hNW := hI.2.2.1.2.2.2.2.2
      have cA := cell_of hI.1 (prow_get hh k hlt)
      obtain ⟨q1, q2, q3, _⟩ := hI.2.2.2.1 k hlt
      have cS := a_hsum E (hh k) wr (hK.belowN (n := g0) (by omega) hw) q1 (by rw [eE.out]; intro z h; cases h) (by rw [eE.out]; simp)
      go_wp2_with (fail)
      refine cS.mono ?_
      rintro e_ w5 ⟨rfl, hb⟩
      replace hI := hI.below (hb.mono hNW)
      replace hw := hw.trans (hb.mono (by omega))
      clear hb cS cA q1
      have hs5 := hI.2.2.1.2.2.2.2.2
      go_wp2_with (fail)
      refine (cR0 w5 _ (hNil.out w5)).mono ?_
      rintro e_ w6 ⟨rfl, hb⟩
      replace hI := hI.below (hb.mono hs5)
      replace hw := hw.trans (hb.mono (by omega))
      clear hb
      go_wp2
      refine ⟨⟨k + 1, by omega, by go_num, hI, hw⟩, ?_⟩
      simp [intOf]; omega
    · obtain rfl : k = 3 := by omega
      have hd : decide ((3 : Int) < 3) = false := by decide
      clear heq0 cR0
      go_wp2
      go_loopw [6] (fun i wr => ∃ (k N : Nat) (h : Nat → Nat) (t : Nat → Value) (c : Nat → List Int), k ≤ np ∧ i = .int .i64 k ∧ Inv N w wr gA (gA + 1) h t c c ∧ (∀ i, i < 3 → (c i).length ≤ (flat ps k).length) ∧ Below g0 w wr) (fun i _ => np - (intOf i).toNat)
      case atStart => exact ⟨0, _, _, _, _, by omega, rfl, hI, fun i _ => by rw [eE.out]; exact Nat.zero_le _, hw⟩
      case round =>
        clear hI hw hd
        obtain ⟨k, N, h, t, c, hk, rfl, hI, hcl, hw⟩ := hrel
        by_cases hlt : k < np
        · have hd : decide ((k : Int) < (np : Int)) = true := by simp; omega
          obtain ⟨ab, aoff, cs, rfl, hab, hrng, hact⟩ := hpc k hlt
          have hF1 := hfn k hlt
          have hfk1 := hfl (k + 1)
          rw [hF1, List.length_append] at hfk1
          obtain ⟨K, A, B, u, uc, rfl, hBp, hun, huc⟩ := hact
          have hPz : ∀ z ∈ ps.getD k [], 0 ≤ z ∧ z < 256 := by obtain ⟨_, _, _, _, _, h⟩ := hBp; exact h
          have hrng' : wr.rangeAt ab (aoff + k * 4) [.int .i64 K, .int .i64 A, .int .i64 B, .slice u (ps.getD k []).length uc] := fun j v hv => (hw.cell (p := ⟨ab, aoff + k * 4 + j, none⟩) hab).trans (hrng j v hv)
          have hBw : ∀ W, Below g0 w W → Bys W (.slice u (ps.getD k []).length uc) (ps.getD k []) := fun W h => hBp.keep (by rw [eg]; exact h)
          clear hrng hBp hpc hfn hfl
          replace hF1 := hide hF1
          replace hBw := hide hBw
          generalize ps.getD k [] = P at *
          generalize flat ps k = Fk at *
          have hNW := hI.2.2.1.2.2.2.2.2
          have hAN := hI.2.2.1.2.2.2.1
          have hinf : (Tryd.prog.info? 52).map (·.size) = some [Value.int .i64 K, .int .i64 A, .int .i64 B, .slice u P.length uc].length := by kernel_rfl
          go_wp2_with (first | (refine wpList_load_rng rfl 52 _ rfl ab (aoff + k * 4) rfl _ _ hrng' Tryd.underlying52 rfl hinf ?_) | fail)
          have rT := hp1_0 wr (.cells #[.int .i64 K, .int .i64 A, .int .i64 B, .slice u P.length uc] 52)
          have hb : Below wr.heap.size wr (wr.alloc (.cells #[.int .i64 K, .int .i64 A, .int .i64 B, .slice u P.length uc] 52)) := (Below.refl _ _).alloc (Nat.le_refl _) _
          replace hI := hI.below (hb.mono hNW)
          replace hw := hw.trans (hb.mono (by omega))
          clear hb hrng' hinf
          generalize wr.alloc (.cells #[.int .i64 K, .int .i64 A, .int .i64 B, .slice u P.length uc] 52) = w5 at *
          generalize wr.heap.size = gT at *
          have lT := lt_of_row rT
          have c1_ : w5.cell? ⟨gT, 1, none⟩ = some (.int .i64 A) := cell_of rT rfl
          have c2_ : w5.cell? ⟨gT, 2, none⟩ = some (.int .i64 B) := cell_of rT rfl
          have wA := at_walk A
          have wB := at_walk B
          have hon := atv_lt A
          have hot := atv_lt B
          generalize atv A = on at *
          generalize atv B = ot at *
          have k1 : ∀ p : Regrown, (grow (redrawn w5 p.d) p.os).cell? ⟨gT, 1, none⟩ = some (.int .i64 A) := fun p => cell_regrown (c1_) p.d p.os
          have k2 : ∀ p : Regrown, (grow (redrawn w5 p.d) p.os).cell? ⟨gT, 2, none⟩ = some (.int .i64 B) := fun p => cell_regrown (c2_) p.d p.os
          refine wp_region_quiet_below (by kernel_rfl) (by kernel_rfl) ?_
          go_big_quiet_step (fail)
          go_big_quiet_step (fail)
          go_big_quiet_step (exact wA.re)
          go_big_quiet_step (fail)
          go_big_quiet_step (fail)
          go_big_quiet_step (exact wB.re)
          go_big_quiet_step (fail)
          go_big_quiet_step (fail)
          refine wpQuiet_nil ?_
          rintro _ ⟨p, rfl⟩
          have hb := below_regrown w5 p.d p.os
          generalize grow (redrawn w5 p.d) p.os = w6 at *
          clear k1 k2
          replace rT := keep hb rT
          replace hI := hI.below (hb.mono (by omega))
          replace hw := hw.trans (hb.mono (by omega))
          clear hb

          have lT6 := lt_of_row rT
          have c0_ : w6.cell? ⟨gT, 0, none⟩ = some (.int .i64 K) := cell_of rT rfl
          have c3_ : w6.cell? ⟨gT, 3, none⟩ = some (.slice u P.length uc) := cell_of rT rfl
          have hN6 := hI.2.2.1.2.2.2.2.2
          have hKon : Kon w6 := hK.belowN (n := g0) (by omega) hw
          have hSta : Sta w6 := hS.belowN (n := g0) (by omega) hw
          have cAo := cell_of hI.1 (prow_get h on hon)
          have cAt := cell_of hI.1 (prow_get h ot hot)
          obtain ⟨q1, q2, q3, q4, q5, q6⟩ := hI.2.2.2.1 on hon
          obtain ⟨p1, p2, p3, p4, p5, p6⟩ := hI.2.2.2.1 ot hot
          obtain ⟨ao, ac, es, hBs, hsn, hsb⟩ := hI.2.2.2.2.2 on hon
          obtain ⟨to, tc, et, hBt, htn, htb⟩ := hI.2.2.2.2.2 ot hot
          have cCo := cell_of hI.2.1 (srow_get t on hon)
          have cCt := cell_of hI.2.1 (srow_get t ot hot)
          rw [es] at cCo
          rw [et] at cCt
          have hco := hcl on hon
          have hct := hcl ot hot
          have hcl' : ∀ i, i < 3 → (c i).length ≤ (Fk ++ P).length := fun i hi => by have := hcl i hi; rw [List.length_append]; omega
          clear c1_ c2_ wA wB
          rcases (by omega : K = 0 ∨ K = 1 ∨ K = 2 ∨ K = 3 ∨ K = 4 ∨ K = 5 ∨ ((K ≠ 0 ∧ K ≠ 1) ∧ (K ≠ 2 ∧ K ≠ 3) ∧ K ≠ 4 ∧ K ≠ 5)) with rfl | rfl | rfl | rfl | rfl | rfl | ⟨⟨z0, z1⟩, ⟨z2, z3⟩, z4, z5⟩
          · have cL := lent_walk P w6 (.slice u P.length uc) (hBw.out w6 hw) (by omega) (fun a l c_ h_ ha => by cases h_; exact hun ha)
            go_wp2_with (fail)
            refine cL.mono ?_
            rintro e_ w7 ⟨vl, rfl, gc, rfl, hgc, rc, hb⟩
            have hs7 := hb.size
            replace hI := hI.below (hb.mono hN6)
            replace hw := hw.trans (hb.mono (by omega))
            replace rT := keep hb rT
            replace hKon := hKon.below hb
            clear cL hb cAo cAt cCo cCt q1 p1 hBs hBt c0_ c3_ hSta
            have lc := lt_of_row rc
            have hBc := Bys.of_prefix rc (by omega) hPz (P.length + 80)
            have cAo := cell_of hI.1 (prow_get h on hon)
            obtain ⟨q1, _⟩ := hI.2.2.2.1 on hon
            go_wp2_with (fail)
            refine (a_write (c on) P (h on) w7 _ q1 hBc (fun a l c_ h_ _ => by cases h_; show gc ≠ h on; omega) (fun a l c_ h_ => by cases h_; omega) (by omega) hKon q6 (by omega)).mono ?_
            rintro e_ w8 ⟨rfl, rN, hgr⟩
            have hs8 := hgr.size
            replace hI := hI.write hon hgr rN (fun z hz => (List.mem_append.1 hz).elim (q6 z) (hPz z))
            replace hw := hw.grown hgr (by omega) (fun k h => by injection h with h; omega)
            replace rc := (hgr.block gc (by omega) (by intro e; injection e with e; omega)).trans rc
            replace rT := (hgr.block gT (by omega) (by intro e; injection e with e; omega)).trans rT
            clear hgr rN hBc cAo q1 hKon
            have c3_ : w8.cell? ⟨gT, 3, none⟩ = some (.slice u P.length uc) := cell_of rT rfl
            go_wp2_with (fail)
            refine (kept_walk P gc w8 (.slice u P.length uc) (hBw.out w8 hw) (by omega) rc).mono ?_
            rintro e_ w9 ⟨rfl, hb⟩
            have hs9 := hb.size
            replace hI := hI.below (hb.mono (by omega))
            replace hw := hw.trans (hb.mono (by omega))
            replace rT := keep hb rT
            replace rc := keep hb rc
            clear hb c3_
            go_wp2_with (fail)
            refine (full_any gc P.length (P.length + 80) 9 _ w9 rc (by simp [irow_size, marks]) (by omega) (by unfold maxLen; omega) (by omega)).mono ?_
            rintro e_ w10 ⟨rfl, hgr⟩
            have hs10 := hgr.size
            replace hI := hI.below ((Below.refl N w9).grown hgr (by omega) (fun k h => by injection h with h; omega))
            replace hw := hw.grown hgr (by omega) (fun k h => by injection h with h; omega)
            replace rT := (hgr.block gT (by omega) (by intro e; injection e with e; omega)).trans rT
            clear hgr rc
            have hN10 := hI.2.2.1.2.2.2.2.2
            obtain ⟨ao, ac, es, hBs, hsn, hsb⟩ := hI.2.2.2.2.2 on hon
            have cCo := cell_of hI.2.1 (srow_get t on hon)
            rw [es] at cCo
            have c3_ : w10.cell? ⟨gT, 3, none⟩ = some (.slice u P.length uc) := cell_of rT rfl
            have hBP := hBw.out w10 hw
            go_wp2_with (fail)
            have hba : Below w10.heap.size w10 ((w10.alloc (.cells #[] 5)).drew) := (((Below.refl _ _).alloc (Nat.le_refl _) _)).drew
            have hoe := (own_empty w10).drew
            have hno1 := bys_none2 hBs hsn
            have hce1 := bys_cells2 (hBs.keep hba)
            have hno2 := bys_none2 hBP hun
            have hnT : gT ≠ w10.heap.size := by omega
            have hnC : gT ≠ gA + 1 := by have := hI.2.2.1.2.2.2.2.1; omega
            have hlo : (0 : Int) ≤ (on : Int) := Int.natCast_nonneg _
            have hli : (on : Int) < 3 := by omega
            have hnw := World.new_ne w10 ⟨gT, 3, none⟩ c3_
            have hnw2 := World.new_ne w10 ⟨gA + 1, on, none⟩ cCo
            have cF := row_frozen hI.2.1 on
            have hC1 : ¬ gA + 1 = w10.heap.size := by have := hI.2.2.1.2.2.2.2.1; omega
            have hC2 : (gA + 1 == w10.heap.size) = false := by rw [beq_eq_false_iff_ne]; exact hC1
            have cCA : (w10.alloc (.cells #[] 5)).cell? ⟨gA + 1, on, none⟩ = some (.slice ao (c on).length ac) := (hba.cell (p := ⟨gA + 1, on, none⟩) (by show gA + 1 < _; have := hI.2.2.1.2.2.2.2.1; omega)).trans cCo
            have cTA : (w10.alloc (.cells #[] 5)).cell? ⟨gT, 3, none⟩ = some (.slice u P.length uc) := (hba.cell (p := ⟨gT, 3, none⟩) (by show gT < _; omega)).trans c3_
            refine wp_region_noPanic ?_
            go_region_law
              ((first
                | (refine step_append_any _ (by rfl) _ _ _ (by rfl) w10.heap.size 5 i0 (.int .u8 0) Tryd.underlying27 hi hz0 hz1 hz2 rfl (.slice (some ⟨w10.heap.size, 0, none⟩) 0 0) 0 [] (by rfl) hoe ao (c on).length ac ((c on).map (Value.int .u8)) (by rfl) (by simp) hno1 hce1 (ints_one .u8 _) (by unfold maxLen; omega) (by omega) hba.size ?_
                   intro v1 w11 hown1 hgrow
                   simp only [Nat.zero_add, List.nil_append] at hown1
                   have hb11 : Below w10.heap.size w10 w11 := hba.grown hgrow hba.size (own_block (fun a h_ => by cases h_; exact Nat.le_refl _))
                   clear hgrow
                   obtain ⟨ao1, cap1, rfl, hnn1, hgg1⟩ := own_form hown1
                   have hT11 := cell_of (keep hb11 rT) (show #[Value.int .i64 0, .int .i64 A, .int .i64 B, .slice u P.length uc][3]? = some (.slice u P.length uc) from rfl)
                   have hce2 := bys_cells2 (hBP.keep hb11))
                | (refine step_append_any _ (by rfl) _ _ _ (by rfl) w10.heap.size 5 i0 (.int .u8 0) Tryd.underlying27 hi hz0 hz1 hz2 rfl _ (c on).length ((c on).map (Value.int .u8)) (by rfl) hown1 u P.length uc (P.map (Value.int .u8)) (by rfl) (by simp) hno2 hce2 (ints_one .u8 _) (by unfold maxLen; omega) (by omega) hb11.size ?_
                   intro v2 w12 hown2 hgrow
                   rw [← List.map_append, ← List.length_append] at hown2
                   have hb12 : Below w10.heap.size w10 w12 := hb11.grown hgrow hb11.size (own_block (fun a h_ => (hgg1 a h_).1))
                   clear hgrow
                   obtain ⟨ao2, cap2, rfl, hnn2, hgg2⟩ := own_form hown2
                   have hT12 := cell_of (keep hb12 rT) (show #[Value.int .i64 0, .int .i64 A, .int .i64 B, .slice u P.length uc][3]? = some (.slice u P.length uc) from rfl)
                   have hT13 : ∀ v, (w12.setCell ⟨gA + 1, on, none⟩ v).cell? ⟨gT, 3, none⟩ = some (.slice u P.length uc) := fun v => cell_of ((heap_setCell_other _ _ _ _ hnC).trans (keep hb12 rT)) (show #[Value.int .i64 0, .int .i64 A, .int .i64 B, .slice u P.length uc][3]? = some (.slice u P.length uc) from rfl)
                   have hI12 := hI.below (hb12.mono hN10)
                   have cC12 := cell_of hI12.2.1 (srow_get t on hon)
                   have cF12 := row_frozen hI12.2.1 on)))
            all_goals
              refine NoPanic.normal ?_
              have hs12 := hb12.size
              have hw12 := hw.trans (hb12.mono (by omega))
              have hB2 := Bys.of_own hown2 (by rw [List.length_append]; omega) (fun z hz => (List.mem_append.1 hz).elim (q6 z) (hPz z))
              have hI13 := hI12.putS (N' := w12.heap.size) hon hB2 hnn2 (fun a ha _ => by
                have h1_ := hgg2 a ha
                have h2_ := hI12.2.2.1.2.2.2.2.1
                exact ⟨h1_.2, by omega, by omega, fun j hj => by have h3_ := (hI12.2.2.2.1 j hj).2.2.1; omega⟩) (by omega) (Nat.le_refl _)
              have hw13 := hw12.setCell (show g0 ≤ (⟨gA + 1, on, none⟩ : Addr).block from (by show g0 ≤ gA + 1; omega)) (.slice ao2 (c on ++ P).length cap2)
              rw [List.length_append] at hI13 hw13
              go_wp2
              refine ⟨⟨k + 1, _, _, _, _, by omega, by go_num, hI13, by rw [hF1.out]; exact upd_le hcl' (by rw [List.length_append, List.length_append]; omega), hw13⟩, ?_⟩
              simp [intOf]; omega
          · have heq := eqSum (c on)
            go_wp2
            have k1 : ∀ p : Regrown, (grow (redrawn w6 p.d) p.os).cell? ⟨gA, on, none⟩ = some (.pointer (some ⟨h on, 0, none⟩)) := fun p => cell_regrown (cAo) p.d p.os
            have k2 : ∀ p : Regrown, (grow (redrawn w6 p.d) p.os).cell? ⟨gA + 1, on, none⟩ = some (.slice ao (c on).length ac) := fun p => cell_regrown (cCo) p.d p.os
            refine wp_region_quiet_below (by kernel_rfl) (by kernel_rfl) ?_
            go_big_quiet_step (fail)
            go_big_quiet_step (fail)
            go_big_quiet_step (fail)
            go_big_quiet_step (exact Calls.regrown_of (a_hsum (c on) (h on) _ (hKon.below (below_regrown _ _ _)) (keep (below_regrown _ _ _) q1) q6 (by omega)))
            go_big_quiet_step (fail)
            go_big_quiet_step (fail)
            go_big_quiet_step (fail)
            go_big_quiet_step (exact Calls.regrown_of (r_sum (c on) _ _ ⟨hBs.keep (below_regrown _ _ _), by omega, fun a l c_ h_ ha => by cases h_; exact hsn ha⟩))
            go_big_quiet_step (fail)
            refine wpQuiet_nil ?_
            rintro _ ⟨p, rfl⟩
            have hb := below_regrown w6 p.d p.os
            generalize grow (redrawn w6 p.d) p.os = w7 at *
            clear k1 k2
            replace hI := hI.below (hb.mono (by omega))
            replace hw := hw.trans (hb.mono (by omega))
            clear hb

            go_wp2
            refine ⟨⟨k + 1, N, h, t, c, by omega, by go_num, hI, by rw [hF1.out]; exact hcl', hw⟩, ?_⟩
            simp [intOf]; omega
          · go_wp2
            have k1 : ∀ p : Regrown, (grow (redrawn w6 p.d) p.os).cell? ⟨gA, on, none⟩ = some (.pointer (some ⟨h on, 0, none⟩)) := fun p => cell_regrown (cAo) p.d p.os
            have k2 : ∀ p : Regrown, (grow (redrawn w6 p.d) p.os).cell? ⟨gA + 1, on, none⟩ = some (.slice ao (c on).length ac) := fun p => cell_regrown (cCo) p.d p.os
            refine wp_region_quiet_below (by kernel_rfl) (by kernel_rfl) ?_
            go_big_quiet_step (fail)
            go_big_quiet_step (fail)
            go_big_quiet_step (fail)
            go_big_quiet_step (exact Calls.regrown_of (a_size (c on) (h on) _ (keep (below_regrown _ _ _) q1)))
            go_big_quiet_step (fail)
            go_big_quiet_step (fail)
            go_big_quiet_step (fail)
            go_big_quiet_step (fail)
            go_big_quiet_step (fail)
            go_big_quiet_step (fail)
            refine wpQuiet_nil ?_
            rintro _ ⟨p, rfl⟩
            have hb := below_regrown w6 p.d p.os
            generalize grow (redrawn w6 p.d) p.os = w7 at *
            clear k1 k2
            replace hI := hI.below (hb.mono (by omega))
            replace hw := hw.trans (hb.mono (by omega))
            clear hb

            go_wp2
            refine ⟨⟨k + 1, N, h, t, c, by omega, by go_num, hI, by rw [hF1.out]; exact hcl', hw⟩, ?_⟩
            simp [intOf]; omega
          · go_wp2_with (fail)
            refine (a_reset (c on) (h on) w6 hSta q1).mono ?_
            rintro e_ w7 ⟨rfl, rN, hgr⟩
            rw [← eE.out] at rN
            replace hI := hI.write hon hgr rN (by rw [eE.out]; intro z h; cases h)
            have hs7 := hgr.size
            replace hw := hw.grown hgr (by omega) (fun k h => by injection h with h; omega)
            have cC := cell_of hI.2.1 (srow_get t on hon)
            have cF := row_frozen hI.2.1 on
            have hI2 := hI.nilS hon eE.out
            have hw2 := hw.setCell (show g0 ≤ (⟨gA + 1, on, none⟩ : Addr).block from (by show g0 ≤ gA + 1; omega)) (.slice none 0 0)
            clear hI hgr rN
            go_wp2
            refine ⟨⟨k + 1, N, h, _, _, by omega, by go_num, hI2, by rw [hF1.out]; exact upd_le hcl' (by rw [eE.out]; exact Nat.zero_le _), hw2⟩, ?_⟩
            simp [intOf]; omega
          · go_wp2_with (fail)
            refine (a_clone (c ot) (h ot) w6 p1).mono ?_
            rintro e_ w7 ⟨rfl, rN, hb⟩
            replace hI := hI.below (hb.mono (by omega))
            replace hw := hw.trans (hb.mono (by omega))
            have hs7 := hb.size
            have lN := lt_of_row rN
            clear hb
            generalize w6.heap.size = gN at *
            have cA2 := cell_of hI.1 (prow_get h on hon)
            have fA2 := row_frozen hI.1 on
            have hI2 := hI.putH (N' := w7.heap.size) hon rN p6 (by omega) lN (Nat.le_refl _)
            have hw2 := hw.setCell (show g0 ≤ (⟨gA, on, none⟩ : Addr).block from (by show g0 ≤ gA; omega)) (.pointer (some ⟨gN, 0, none⟩))
            have cC2 := cell_of hI2.2.1 (srow_get t ot hot)
            rw [et] at cC2
            have cC3 := cell_of hI2.2.1 (srow_get t on hon)
            have cF3 := row_frozen hI2.2.1 on
            have hI3 := hI2.copyS hon hot et
            have hw3 := hw2.setCell (show g0 ≤ (⟨gA + 1, on, none⟩ : Addr).block from (by show g0 ≤ gA + 1; omega)) (.slice to (c ot).length tc)
            clear hI hI2 hw hw2 rN
            go_wp2
            refine ⟨⟨k + 1, _, _, _, _, by omega, by go_num, hI3, by rw [hF1.out]; exact upd_le hcl' (hcl' ot hot), hw3⟩, ?_⟩
            simp [intOf]; omega
          · go_wp2_with (fail)
            refine (a_new w6 hSta).mono ?_
            rintro e_ w7 ⟨rfl, rN, hb⟩
            rw [← eE.out] at rN
            replace hI := hI.below (hb.mono (by omega))
            replace hw := hw.trans (hb.mono (by omega))
            have hs7 := hb.size
            have lN := lt_of_row rN
            clear hb
            generalize w6.heap.size = gN at *
            have cA2 := cell_of hI.1 (prow_get h on hon)
            have fA2 := row_frozen hI.1 on
            have hI2 := hI.putH (N' := w7.heap.size) hon rN (by rw [eE.out]; intro z h; cases h) (by omega) lN (Nat.le_refl _)
            have hw2 := hw.setCell (show g0 ≤ (⟨gA, on, none⟩ : Addr).block from (by show g0 ≤ gA; omega)) (.pointer (some ⟨gN, 0, none⟩))
            have cC3 := cell_of hI2.2.1 (srow_get t on hon)
            have cF3 := row_frozen hI2.2.1 on
            have hI3 := hI2.nilS hon eE.out
            have cA3 := cell_of hI3.1 (prow_get (upd h on gN) on hon)
            rw [upd_same] at cA3
            have hw3 := hw2.setCell (show g0 ≤ (⟨gA + 1, on, none⟩ : Addr).block from (by show g0 ≤ gA + 1; omega)) (.slice none 0 0)
            clear hI hI2 hw hw2 rN
            go_wp2
            refine ⟨⟨k + 1, _, _, _, _, by omega, by go_num, hI3, by rw [hF1.out]; exact upd_le hcl' (by rw [eE.out]; exact Nat.zero_le _), hw3⟩, ?_⟩
            simp [intOf]; omega
          · have b0 : (K == 0) = false := by rw [beq_eq_false_iff_ne]; exact z0
            have b1 : (K == 1) = false := by rw [beq_eq_false_iff_ne]; exact z1
            have b2 : (K == 2) = false := by rw [beq_eq_false_iff_ne]; exact z2
            have b3 : (K == 3) = false := by rw [beq_eq_false_iff_ne]; exact z3
            have b4 : (K == 4) = false := by rw [beq_eq_false_iff_ne]; exact z4
            have b5 : (K == 5) = false := by rw [beq_eq_false_iff_ne]; exact z5
            go_wp2
            refine ⟨⟨k + 1, N, h, t, c, by omega, by go_num, hI, by rw [hF1.out]; exact hcl', hw⟩, ?_⟩
            simp [intOf]; omega
        · have ek : k = np := by omega
          have hd : decide ((k : Int) < (np : Int)) = false := by simp; omega
          have hfk := hfl k
          clear hpc hfn hfl hpl
          go_wp2
          go_loopw [13] (fun i wr => ∃ j : Nat, j ≤ 3 ∧ i = .int .i64 j ∧ Inv N w wr gA (gA + 1) h t c c ∧ Below g0 w wr) (fun i _ => 3 - (intOf i).toNat)
          case atStart => exact ⟨0, by omega, rfl, hI, hw⟩
          case round =>
            clear hI hw hd
            obtain ⟨j, hj3, rfl, hI, hw⟩ := hrel
            by_cases hj : j < 3
            · have hd : decide ((j : Int) < 3) = true := by simp; omega
              have hN6 := hI.2.2.1.2.2.2.2.2
              have hAN := hI.2.2.1.2.2.2.1
              have hKon : Kon wr := hK.belowN (n := g0) (by omega) hw
              have cAo := cell_of hI.1 (prow_get h j hj)
              obtain ⟨q1, q2, q3, q4, q5, q6⟩ := hI.2.2.2.1 j hj
              obtain ⟨ao, ac, es, hBs, hsn, hsb⟩ := hI.2.2.2.2.2 j hj
              have cCo := cell_of hI.2.1 (srow_get t j hj)
              rw [es] at cCo
              have hco := hcl j hj
              have heq := eqSum (c j)
              go_wp2
              have k1 : ∀ p : Regrown, (grow (redrawn wr p.d) p.os).cell? ⟨gA, j, none⟩ = some (.pointer (some ⟨h j, 0, none⟩)) := fun p => cell_regrown (cAo) p.d p.os
              have k2 : ∀ p : Regrown, (grow (redrawn wr p.d) p.os).cell? ⟨gA + 1, j, none⟩ = some (.slice ao (c j).length ac) := fun p => cell_regrown (cCo) p.d p.os
              refine wp_region_quiet_below (by kernel_rfl) (by kernel_rfl) ?_
              go_big_quiet_step (fail)
              go_big_quiet_step (fail)
              go_big_quiet_step (fail)
              go_big_quiet_step (exact Calls.regrown_of (a_hsum (c j) (h j) _ (hKon.below (below_regrown _ _ _)) (keep (below_regrown _ _ _) q1) q6 (by omega)))
              go_big_quiet_step (fail)
              go_big_quiet_step (fail)
              go_big_quiet_step (fail)
              go_big_quiet_step (exact Calls.regrown_of (r_sum (c j) _ _ ⟨hBs.keep (below_regrown _ _ _), by omega, fun a l c_ h_ ha => by cases h_; exact hsn ha⟩))
              go_big_quiet_step (fail)
              go_big_quiet_step (fail)
              go_big_quiet_step (fail)
              go_big_quiet_step (fail)
              go_big_quiet_step (fail)
              go_big_quiet_step (exact Calls.regrown_of (a_size (c j) (h j) _ (keep (below_regrown _ _ _) q1)))
              go_big_quiet_step (fail)
              go_big_quiet_step (fail)
              go_big_quiet_step (fail)
              go_big_quiet_step (fail)
              go_big_quiet_step (fail)
              go_big_quiet_step (fail)
              go_big_quiet_step (fail)
              refine wpQuiet_nil ?_
              rintro _ ⟨p, rfl⟩
              have hb := below_regrown wr p.d p.os
              generalize grow (redrawn wr p.d) p.os = w7 at *
              clear k1 k2
              replace hI := hI.below (hb.mono (by omega))
              replace hw := hw.trans (hb.mono (by omega))
              clear hb

              go_wp2
              refine ⟨⟨j + 1, by omega, by go_num, hI, hw⟩, ?_⟩
              simp [intOf]; omega
            · obtain rfl : j = 3 := by omega
              have hd : decide ((3 : Int) < 3) = false := by decide
              go_wp2
              go_ret
              exact ⟨rfl, by rw [eg]; exact hw⟩

end Go.Proofs.YtbbdfbljhjijbaaDoor

