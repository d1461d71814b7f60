import Derived.Test.YtdfpmgjholdknaaDoorProg
import Derived.WalkKit
import Derived.WalkSpells
import Derived.WalkLawsBesides
import Derived.Lib.QuietBelow
import Derived.Laws.BitsAllLaws
import Derived.BigQuiet
import Derived.WalkMore
import Derived.Deep.MidRow
import Derived.Test.YtdfpmgjholdknaaDoorKa
import Derived.Test.YtdfpmgjholdknaaDoorUd
namespace Go.Proofs.YtdfpmgjholdknaaDoor
set_option maxRecDepth 100000
open Go Go.RowKit Go.Sort
attribute [local go_sem] setCell_drewN alloc_drewN
theorem wpList_load_sl {ops : Array Oper} {rest : List Oper} {o : Oper} {a : Act} {w : World} {Q : Exit → Act → World → Prop} (hw : Region.wanted o (yielded ops a.tmps) = true) (x : Operand) (ho : o.op = .load 55 x)
    (g off : Nat) (hx : a.eval x = .pointer (some ⟨g, off, none⟩)) (c0 c1 c2 c3 c4 : Value) (hr : w.rangeAt g off [c0, c1, c2, c3, c4])
    (h : wpList Tryd.prog ops Q rest (a.put o.dst (.agg #[c0, c1, c2, c3, c4])) w) : wpList Tryd.prog ops Q (o :: rest) a w :=
  BigFrame.wpList_want hw fun _ hK => wp_load_mid 55 x ho g off hx [c0, c1, c2, c3, c4] _ hr Tryd.underlying55 rfl infoS (hK _ _ h)
theorem tyOf_nat (k : Int) : ∃ T : Nat, tyOf k = (T : Int) ∧ T ≤ 5 := by
  unfold tyOf
  split
  · exact ⟨5, rfl, by omega⟩
  · split
    · exact ⟨1, rfl, by omega⟩
    · split
      · exact ⟨0, rfl, by omega⟩
      · exact ⟨2, rfl, by omega⟩
set_option maxRecDepth 100000 in
set_option maxHeartbeats 16000000 in
theorem r_span {W : World} {v : Value} {ts : List Slt} (h : Slo W v ts) : gd ts → ∀ (w : World), Below W.heap.size W w → Calls Tryd.prog 17 #[v] w fun e w' => e = .returned (.tuple #[.int .i64 ((spL ts 0 0).1 : Int), .int .i64 ((spL ts 0 0).2 : Int)]) ∧ Below w.heap.size w w' := by
  induction h with
  | mk ao cap ts us hl hc hn h hs ih =>
    intro hgd w hw
    go_enter Tryd.func17, Tryd.ntmps17
    go_wp2_with (fail)
    go_loopw [4, 5, 6] (fun s t i wr => ∃ (k a b : Nat), k ≤ ts.length ∧ i = .int .i64 k ∧ s = .int .i64 (a : Int) ∧ t = .int .i64 (b : Int) ∧ a ≤ 4194305 ∧ b ≤ 4194305 ∧ spL ts 0 0 = spL (ts.drop k) a b ∧ Below w.heap.size w wr) (fun _ _ i _ => ts.length - (intOf i).toNat)
    case atStart => exact ⟨0, 0, 0, by omega, rfl, rfl, rfl, by omega, by omega, rfl, Below.refl _ _⟩
    case round =>
      obtain ⟨k, a, b, hk, rfl, rfl, rfl, ha, hb', he, hb⟩ := hrel
      have hww := Below.after hw hb
      by_cases hlt : k < ts.length
      · have hd : decide ((k : Int) < (ts.length : Int)) = true := by simp; omega
        obtain ⟨⟨hn1, hn2⟩, hfit, hsubg⟩ := gd_at ts k hlt hgd
        rw [sdrop ts k hlt, spL_cons] at he
        obtain ⟨bb, off, hao, hbl, hra, hok⟩ := h k hlt
        obtain ⟨so, sc, hsf⟩ := (hs k hlt).form
        have cI := ih k hlt
        subst hao
        have hrw := rangeS_keep2 hra hww hbl
        have hk1 : 0 ≤ (k : Int) ∧ (k : Int) < (ts.length : Int) := by omega
        have hsl := spL_le (gs ts k).sub 0 0 (by omega) (by omega)
        have hcas := fit_cases hfit
        have hlb := hok.2.2.1
        have hmb := hok.2.2.2
        unfold srow at hrw
        clear h hs ih hra hok hfit
        obtain ⟨N, hN⟩ : ∃ N : Nat, (gs ts k).no = (N : Int) := ⟨(gs ts k).no.toNat, by omega⟩
        obtain ⟨T, hT, hT5⟩ := tyOf_nat (gs ts k).kind
        have hhd : hdl (gs ts k).no (gs ts k).kind = (en (8 * N + T)).length := by rw [hdl, hN, hT]; rfl
        have hel : (en (8 * N + T)).length ≤ 10 := en_ten (by omega)
        have cT := r_typeOf (gs ts k).kind
        have cS := r_size (8 * N + T) (by omega)
        rw [Int.natCast_add, Int.natCast_mul] at cS
        rw [hT] at cT
        rw [hhd] at he
        generalize (en (8 * N + T)).length = H at *
        rw [hN] at hrw hn1 hn2
        generalize gvs us k = u at *
        generalize (gs ts k).least = l at *
        generalize (gs ts k).most = m at *
        have hnd : nst (gs ts k) ↔ (gs ts k).kind = 8 ∨ (gs ts k).kind = 9 := Iff.rfl
        generalize (gs ts k).kind = kd at *
        generalize (gs ts k).sub = sub at *
        generalize (gs ts k).no = no' at *
        clear hT hN hhd
        subst hsf
        have r0 := hp1_0 wr (.cells #[.int .i64 0, .int .i64 0, .int .u64 0, .int .u64 0, .slice none 0 0] 55)
        have hone : (#[.int .i64 (N : Int), .int .i64 kd, .int .u64 (l : Int), .int .u64 (m : Int), .slice so sub.length sc] : Array Value).all (·.oneCell') = true := by simp [Value.oneCell']
        have hba : Below wr.heap.size wr ((wr.alloc (.cells #[.int .i64 0, .int .i64 0, .int .u64 0, .int .u64 0, .slice none 0 0] 55)).setRow wr.heap.size #[.int .i64 (N : Int), .int .i64 kd, .int .u64 (l : Int), .int .u64 (m : Int), .slice so sub.length sc]) := below_setRow ((Below.refl _ _).alloc (Nat.le_refl _) _) (Nat.le_refl _) #[.int .i64 (N : Int), .int .i64 kd, .int .u64 (l : Int), .int .u64 (m : Int), .slice so sub.length sc]
        have r1 := setRow_heap _ wr.heap.size _ #[.int .i64 (N : Int), .int .i64 kd, .int .u64 (l : Int), .int .u64 (m : Int), .slice so sub.length sc] _ _ r0
        go_wp2_with (first | (refine wpList_load_sl rfl _ rfl bb (off + k * 5) rfl _ _ _ _ _ hrw ?_) | (refine wpList_alloc rfl 55 rfl #[.int .i64 0, .int .i64 0, .int .u64 0, .int .u64 0, .slice none 0 0] zSl ?_) | (refine wpList_store_row rfl 55 _ _ rfl (wr.heap.size) #[.int .i64 (N : Int), .int .i64 kd, .int .u64 (l : Int), .int .u64 (m : Int), .slice so sub.length sc] rfl rfl 55 _ r0 infoS rfl hone ?_) | fail)
        replace hb := Below.after hb hba
        replace hww := Below.after hww hba
        clear r0 hone hba
        generalize (wr.alloc (.cells #[.int .i64 0, .int .i64 0, .int .u64 0, .int .u64 0, .slice none 0 0] 55)).setRow wr.heap.size #[.int .i64 (N : Int), .int .i64 kd, .int .u64 (l : Int), .int .u64 (m : Int), .slice so sub.length sc] = w1 at *
        generalize wr.heap.size = g at *
        have hc0 : w1.cell? ⟨g, 0, none⟩ = some (.int .i64 (N : Int)) := by rw [cell_of_row _ g 0 _ _ _ r1]; rfl
        have hc1 : w1.cell? ⟨g, 1, none⟩ = some (.int .i64 kd) := by rw [cell_of_row _ g 1 _ _ _ r1]; rfl
        have k0 : ∀ p : Regrown, (grow (redrawn w1 p.d) p.os).cell? ⟨g, 0, none⟩ = some (.int .i64 (N : Int)) := fun p => cell_regrown hc0 p.d p.os
        have k1 : ∀ p : Regrown, (grow (redrawn w1 p.d) p.os).cell? ⟨g, 1, none⟩ = some (.int .i64 kd) := fun p => cell_regrown hc1 p.d p.os
        have cT1 : GivesB w1 25 #[.int .i64 kd] (.int .i64 (T : Int)) := fun V _ => cT V
        have cS1 : GivesB w1 24 #[.int .u64 (8 * (N : Int) + (T : Int))] (.int .i64 (H : Int)) := fun V _ => cS V
        have hNb : 0 ≤ 8 * (N : Int) + (T : Int) ∧ 8 * (N : Int) + (T : Int) ≤ 4294967301 := by omega
        have hNc : 0 ≤ 8 * (N : Int) ∧ 8 * (N : Int) ≤ 4294967296 := by omega
        clear cT cS hc0 hc1
        simp only [Act.put, List.setIfInBounds_toArray, List.set_cons_succ, List.set_cons_zero]
        refine wp_region_quiet_below (by kernel_rfl) (by kernel_rfl) ?_
        go_big_quiet_step (fail)
        go_big_quiet_step (fail)
        go_big_quiet_step (fail)
        go_big_quiet_step (fail)
        go_big_quiet_step (fail)
        go_big_quiet_step (exact cT1.re)
        go_big_quiet_step (fail)
        go_big_quiet_step (fail)
        go_big_quiet_step (exact cS1.re)
        go_big_quiet_step (fail)
        refine wpQuiet_nil ?_
        rintro _ ⟨p, rfl⟩
        have hb2 := below_regrown w1 p.d p.os
        generalize grow (redrawn w1 p.d) p.os = w2 at *
        replace r1 := keep hb2 r1
        replace hb := Below.after hb hb2
        replace hww := Below.after hww hb2
        clear hb2 k0 k1 cT1 cS1
        have hc1 : w2.cell? ⟨g, 1, none⟩ = some (.int .i64 kd) := by rw [cell_of_row _ g 1 _ _ _ r1]; rfl
        rcases hcas with ⟨rfl, hlm⟩ | ⟨rfl, hlm, hm3⟩ | ⟨rfl, hlm⟩ | rfl | ⟨hk56, hlm, hm4⟩ | rfl | rfl | ⟨rfl, hlm, hm4⟩
        · rw [show slsz 1 l m (spL sub 0 0) = ((en l).length, (en m).length) from rfl] at he
          replace he := hide he
          have e1 := en_ten hlb
          have e2 := en_ten hmb
          have s1 : GivesB w2 24 #[.int .u64 (l : Int)] (.int .i64 ((en l).length : Int)) := fun V _ => r_size l hlb V
          have s2 : GivesB w2 24 #[.int .u64 (m : Int)] (.int .i64 ((en m).length : Int)) := fun V _ => r_size m hmb V
          generalize (en l).length = A at *
          generalize (en m).length = Bm at *
          have hc2 : w2.cell? ⟨g, 2, none⟩ = some (.int .u64 (l : Int)) := by rw [cell_of_row _ g 2 _ _ _ r1]; rfl
          have hc3 : w2.cell? ⟨g, 3, none⟩ = some (.int .u64 (m : Int)) := by rw [cell_of_row _ g 3 _ _ _ r1]; rfl
          have k2 : ∀ p : Regrown, (grow (redrawn w2 p.d) p.os).cell? ⟨g, 2, none⟩ = some (.int .u64 (l : Int)) := fun p => cell_regrown hc2 p.d p.os
          have k3 : ∀ p : Regrown, (grow (redrawn w2 p.d) p.os).cell? ⟨g, 3, none⟩ = some (.int .u64 (m : Int)) := fun p => cell_regrown hc3 p.d p.os
          clear cI hnd hsubg hsl
          go_wp2_with (fail)
          refine wp_region_quiet_below (by kernel_rfl) (by kernel_rfl) ?_
          go_big_quiet_step (fail)
          go_big_quiet_step (fail)
          go_big_quiet_step (exact s1.re)
          go_big_quiet_step (fail)
          go_big_quiet_step (fail)
          go_big_quiet_step (exact s2.re)
          go_big_quiet_step (fail)
          go_big_quiet_step (fail)
          refine wpQuiet_nil ?_
          rintro _ ⟨p, rfl⟩
          have hb2 := below_regrown w2 p.d p.os
          generalize grow (redrawn w2 p.d) p.os = w3 at *
          replace hb := Below.after hb hb2
          clear hb2 k2 k3 s1 s2
          have cA := r_capped (a + H + A) w3
          have cB := r_capped (b + H + Bm)
          have la := cpd_le (a + H + A)
          have lb := cpd_le (b + H + Bm)
          rw [Int.natCast_add, Int.natCast_add] at cA
          generalize cpd (a + H + A) = a2 at *
          generalize hcb : cpd (b + H + Bm) = b2 at *
          go_wp2_with (fail)
          refine cA.mono ?_
          rintro e_ wa ⟨rfl, hba⟩
          replace hb := Below.after hb hba
          clear cA hba
          have cB1 := cB wa
          rw [Int.natCast_add, Int.natCast_add] at cB1
          go_wp2_with (fail)
          refine cB1.mono ?_
          rintro e_ wb ⟨rfl, hba⟩
          replace hb := Below.after hb hba
          clear cB cB1 hba
          go_wp2_with (fail)
          refine ⟨⟨k + 1, a2, b2, by omega, by go_num, rfl, rfl, la, lb, he.out, hb⟩, ?_⟩
          simp [intOf]; omega
        · rw [show slsz 2 l m (spL sub 0 0) = (4, 4) from rfl] at he
          replace he := hide he
          clear cI hnd hsubg hsl
          have cA := r_capped (a + H + 4) w2
          have cB := r_capped (b + H + 4)
          have la := cpd_le (a + H + 4)
          have lb := cpd_le (b + H + 4)
          rw [Int.natCast_add, Int.natCast_add] at cA
          generalize cpd (a + H + 4) = a2 at *
          generalize hcb : cpd (b + H + 4) = b2 at *
          go_wp2_with (fail)
          refine cA.mono ?_
          rintro e_ wa ⟨rfl, hba⟩
          replace hb := Below.after hb hba
          clear cA hba
          have cB1 := cB wa
          rw [Int.natCast_add, Int.natCast_add] at cB1
          go_wp2_with (fail)
          refine cB1.mono ?_
          rintro e_ wb ⟨rfl, hba⟩
          replace hb := Below.after hb hba
          clear cB cB1 hba
          go_wp2_with (fail)
          refine ⟨⟨k + 1, a2, b2, by omega, by go_num, rfl, rfl, la, lb, he.out, hb⟩, ?_⟩
          simp [intOf]; omega
        · rw [show slsz 3 l m (spL sub 0 0) = (8, 8) from rfl] at he
          replace he := hide he
          clear cI hnd hsubg hsl
          have cA := r_capped (a + H + 8) w2
          have cB := r_capped (b + H + 8)
          have la := cpd_le (a + H + 8)
          have lb := cpd_le (b + H + 8)
          rw [Int.natCast_add, Int.natCast_add] at cA
          generalize cpd (a + H + 8) = a2 at *
          generalize hcb : cpd (b + H + 8) = b2 at *
          go_wp2_with (fail)
          refine cA.mono ?_
          rintro e_ wa ⟨rfl, hba⟩
          replace hb := Below.after hb hba
          clear cA hba
          have cB1 := cB wa
          rw [Int.natCast_add, Int.natCast_add] at cB1
          go_wp2_with (fail)
          refine cB1.mono ?_
          rintro e_ wb ⟨rfl, hba⟩
          replace hb := Below.after hb hba
          clear cB cB1 hba
          go_wp2_with (fail)
          refine ⟨⟨k + 1, a2, b2, by omega, by go_num, rfl, rfl, la, lb, he.out, hb⟩, ?_⟩
          simp [intOf]; omega
        · rw [show slsz 4 l m (spL sub 0 0) = (1, 1) from rfl] at he
          replace he := hide he
          clear cI hnd hsubg hsl
          have cA := r_capped (a + H + 1) w2
          have cB := r_capped (b + H + 1)
          have la := cpd_le (a + H + 1)
          have lb := cpd_le (b + H + 1)
          rw [Int.natCast_add, Int.natCast_add] at cA
          generalize cpd (a + H + 1) = a2 at *
          generalize hcb : cpd (b + H + 1) = b2 at *
          go_wp2_with (fail)
          refine cA.mono ?_
          rintro e_ wa ⟨rfl, hba⟩
          replace hb := Below.after hb hba
          clear cA hba
          have cB1 := cB wa
          rw [Int.natCast_add, Int.natCast_add] at cB1
          go_wp2_with (fail)
          refine cB1.mono ?_
          rintro e_ wb ⟨rfl, hba⟩
          replace hb := Below.after hb hba
          clear cB cB1 hba
          go_wp2_with (fail)
          refine ⟨⟨k + 1, a2, b2, by omega, by go_num, rfl, rfl, la, lb, he.out, hb⟩, ?_⟩
          simp [intOf]; omega
        · have hsz : slsz kd l m (spL sub 0 0) = (frm l, frm m) := by rcases hk56 with rfl | rfl <;> rfl
          rw [hsz] at he
          replace he := hide he
          have e1 := frm_le l
          have e2 := frm_le m
          have s1 : GivesB w2 26 #[.int .i64 (l : Int)] (.int .i64 (frm l : Int)) := fun V _ => r_framed l (by omega) V
          have s2 : GivesB w2 26 #[.int .i64 (m : Int)] (.int .i64 (frm m : Int)) := fun V _ => r_framed m (by omega) V
          generalize frm l = A at *
          generalize frm m = Bm at *
          have hc2 : w2.cell? ⟨g, 2, none⟩ = some (.int .u64 (l : Int)) := by rw [cell_of_row _ g 2 _ _ _ r1]; rfl
          have hc3 : w2.cell? ⟨g, 3, none⟩ = some (.int .u64 (m : Int)) := by rw [cell_of_row _ g 3 _ _ _ r1]; rfl
          have k2 : ∀ p : Regrown, (grow (redrawn w2 p.d) p.os).cell? ⟨g, 2, none⟩ = some (.int .u64 (l : Int)) := fun p => cell_regrown hc2 p.d p.os
          have k3 : ∀ p : Regrown, (grow (redrawn w2 p.d) p.os).cell? ⟨g, 3, none⟩ = some (.int .u64 (m : Int)) := fun p => cell_regrown hc3 p.d p.os
          clear cI hnd hsubg hsl hsz
          rcases hk56 with rfl | rfl
          all_goals
            go_wp2_with (fail)
            refine wp_region_quiet_below (by kernel_rfl) (by kernel_rfl) ?_
            go_big_quiet_step (fail)
            go_big_quiet_step (fail)
            go_big_quiet_step (fail)
            go_big_quiet_step (exact s1.re)
            go_big_quiet_step (fail)
            go_big_quiet_step (fail)
            go_big_quiet_step (fail)
            go_big_quiet_step (exact s2.re)
            go_big_quiet_step (fail)
            go_big_quiet_step (fail)
            refine wpQuiet_nil ?_
            rintro _ ⟨p, rfl⟩
            have hb2 := below_regrown w2 p.d p.os
            generalize grow (redrawn w2 p.d) p.os = w3 at *
            replace hb := Below.after hb hb2
            clear hb2 k2 k3 s1 s2
            have cA := r_capped (a + H + A) w3
            have cB := r_capped (b + H + Bm)
            have la := cpd_le (a + H + A)
            have lb := cpd_le (b + H + Bm)
            rw [Int.natCast_add, Int.natCast_add] at cA
            generalize cpd (a + H + A) = a2 at *
            generalize hcb : cpd (b + H + Bm) = b2 at *
            go_wp2_with (fail)
            refine cA.mono ?_
            rintro e_ wa ⟨rfl, hba⟩
            replace hb := Below.after hb hba
            clear cA hba
            have cB1 := cB wa
            rw [Int.natCast_add, Int.natCast_add] at cB1
            go_wp2_with (fail)
            refine cB1.mono ?_
            rintro e_ wb ⟨rfl, hba⟩
            replace hb := Below.after hb hba
            clear cB cB1 hba
            go_wp2_with (fail)
            refine ⟨⟨k + 1, a2, b2, by omega, by go_num, rfl, rfl, la, lb, he.out, hb⟩, ?_⟩
            simp [intOf]; omega
        · rw [show slsz 7 l m (spL sub 0 0) = (8, 8) from rfl] at he
          replace he := hide he
          clear cI hnd hsubg hsl
          have cA := r_capped (a + H + 8) w2
          have cB := r_capped (b + H + 8)
          have la := cpd_le (a + H + 8)
          have lb := cpd_le (b + H + 8)
          rw [Int.natCast_add, Int.natCast_add] at cA
          generalize cpd (a + H + 8) = a2 at *
          generalize hcb : cpd (b + H + 8) = b2 at *
          go_wp2_with (fail)
          refine cA.mono ?_
          rintro e_ wa ⟨rfl, hba⟩
          replace hb := Below.after hb hba
          clear cA hba
          have cB1 := cB wa
          rw [Int.natCast_add, Int.natCast_add] at cB1
          go_wp2_with (fail)
          refine cB1.mono ?_
          rintro e_ wb ⟨rfl, hba⟩
          replace hb := Below.after hb hba
          clear cB cB1 hba
          go_wp2_with (fail)
          refine ⟨⟨k + 1, a2, b2, by omega, by go_num, rfl, rfl, la, lb, he.out, hb⟩, ?_⟩
          simp [intOf]; omega
        · rw [show slsz 8 l m (spL sub 0 0) = (frm (spL sub 0 0).1, frm (spL sub 0 0).2) from rfl] at he
          replace he := hide he
          have cX := cI (hsubg (hnd.2 (.inl rfl))) w2 hww
          have hc4 : w2.cell? ⟨g, 4, none⟩ = some (.slice so sub.length sc) := by rw [cell_of_row _ g 4 _ _ _ r1]; rfl
          obtain ⟨x1, x2⟩ := hsl
          have cF1 := r_framed (spL sub 0 0).1 (by omega)
          have cF2 := r_framed (spL sub 0 0).2 (by omega)
          have e1 := frm_le (spL sub 0 0).1
          have e2 := frm_le (spL sub 0 0).2
          generalize hf1 : frm (spL sub 0 0).1 = A at *
          generalize hf2 : frm (spL sub 0 0).2 = Bm at *
          generalize (spL sub 0 0).1 = X at *
          generalize (spL sub 0 0).2 = Y at *
          replace hf1 := hide hf1
          replace hf2 := hide hf2
          clear cI hnd hsubg
          go_wp2_with (fail)
          refine cX.mono ?_
          rintro e_ w3 ⟨rfl, hb3⟩
          replace r1 := keep hb3 r1
          replace hb := Below.after hb hb3
          clear cX hb3
          have cG := cF1 w3
          go_wp2_with (fail)
          refine cG.mono ?_
          rintro e_ w4 ⟨rfl, hb3⟩
          replace r1 := keep hb3 r1
          replace hb := Below.after hb hb3
          clear cG hb3
          have cG := cF2 w4
          go_wp2_with (fail)
          refine cG.mono ?_
          rintro e_ w5 ⟨rfl, hb3⟩
          replace r1 := keep hb3 r1
          replace hb := Below.after hb hb3
          clear cG hb3 cF1 cF2
          have cA := r_capped (a + H + A) w5
          have cB := r_capped (b + H + Bm)
          have la := cpd_le (a + H + A)
          have lb := cpd_le (b + H + Bm)
          rw [Int.natCast_add, Int.natCast_add] at cA
          generalize cpd (a + H + A) = a2 at *
          generalize hcb : cpd (b + H + Bm) = b2 at *
          go_wp2_with (fail)
          refine cA.mono ?_
          rintro e_ wa ⟨rfl, hba⟩
          replace hb := Below.after hb hba
          clear cA hba
          have cB1 := cB wa
          rw [Int.natCast_add, Int.natCast_add] at cB1
          go_wp2_with (fail)
          refine cB1.mono ?_
          rintro e_ wb ⟨rfl, hba⟩
          replace hb := Below.after hb hba
          clear cB cB1 hba
          go_wp2_with (fail)
          refine ⟨⟨k + 1, a2, b2, by omega, by go_num, rfl, rfl, la, lb, he.out, hb⟩, ?_⟩
          simp [intOf]; omega
        · rw [show slsz 9 l m (spL sub 0 0) = (frm (cpd (frm (spL sub 0 0).1 * l)), frm (cpd (frm (spL sub 0 0).2 * m))) from rfl] at he
          replace he := hide he
          have cX := cI (hsubg (hnd.2 (.inr rfl))) w2 hww
          have hc4 : w2.cell? ⟨g, 4, none⟩ = some (.slice so sub.length sc) := by rw [cell_of_row _ g 4 _ _ _ r1]; rfl
          obtain ⟨x1, x2⟩ := hsl
          have cF1 := r_framed (spL sub 0 0).1 (by omega)
          have cF2 := r_framed (spL sub 0 0).2 (by omega)
          have e1 := frm_le (spL sub 0 0).1
          have e2 := frm_le (spL sub 0 0).2
          generalize hf1 : frm (spL sub 0 0).1 = A at *
          generalize hf2 : frm (spL sub 0 0).2 = Bm at *
          generalize (spL sub 0 0).1 = X at *
          generalize (spL sub 0 0).2 = Y at *
          replace hf1 := hide hf1
          replace hf2 := hide hf2
          clear cI hnd hsubg
          go_wp2_with (fail)
          refine cX.mono ?_
          rintro e_ w3 ⟨rfl, hb3⟩
          replace r1 := keep hb3 r1
          replace hb := Below.after hb hb3
          clear cX hb3
          have cG := cF1 w3
          go_wp2_with (fail)
          refine cG.mono ?_
          rintro e_ w4 ⟨rfl, hb3⟩
          replace r1 := keep hb3 r1
          replace hb := Below.after hb hb3
          clear cG hb3
          have cG := cF2 w4
          go_wp2_with (fail)
          refine cG.mono ?_
          rintro e_ w5 ⟨rfl, hb3⟩
          replace r1 := keep hb3 r1
          replace hb := Below.after hb hb3
          clear cG hb3 cF1 cF2
          have p1 : A * l ≤ 4194305 * 4096 := Nat.mul_le_mul e1 (by omega)
          have p2 : Bm * m ≤ 4194305 * 4096 := Nat.mul_le_mul e2 hm4
          have q1 := cpd_le (A * l)
          have q2 := cpd_le (Bm * m)
          have s1 : GivesB w5 27 #[.int .i64 ((A : Int) * (l : Int))] (.int .i64 (cpd (A * l) : Int)) := fun V _ => by have := r_capped (A * l) V; rwa [Int.natCast_mul] at this
          have s2 : GivesB w5 27 #[.int .i64 ((Bm : Int) * (m : Int))] (.int .i64 (cpd (Bm * m) : Int)) := fun V _ => by have := r_capped (Bm * m) V; rwa [Int.natCast_mul] at this
          have t1 : GivesB w5 26 #[.int .i64 (cpd (A * l) : Int)] (.int .i64 (frm (cpd (A * l)) : Int)) := fun V _ => r_framed _ (by omega) V
          have t2 : GivesB w5 26 #[.int .i64 (cpd (Bm * m) : Int)] (.int .i64 (frm (cpd (Bm * m)) : Int)) := fun V _ => r_framed _ (by omega) V
          have z1 := frm_le (cpd (A * l))
          have z2 := frm_le (cpd (Bm * m))
          have p3 : 0 ≤ (A : Int) * (l : Int) ∧ (A : Int) * (l : Int) ≤ 17179873280 := by rw [← Int.natCast_mul]; omega
          have p4 : 0 ≤ (Bm : Int) * (m : Int) ∧ (Bm : Int) * (m : Int) ≤ 17179873280 := by rw [← Int.natCast_mul]; omega
          generalize frm (cpd (A * l)) = A3 at *
          generalize frm (cpd (Bm * m)) = B3 at *
          generalize cpd (A * l) = A2 at *
          generalize cpd (Bm * m) = B2 at *
          have hc2 : w5.cell? ⟨g, 2, none⟩ = some (.int .u64 (l : Int)) := by rw [cell_of_row _ g 2 _ _ _ r1]; rfl
          have hc3 : w5.cell? ⟨g, 3, none⟩ = some (.int .u64 (m : Int)) := by rw [cell_of_row _ g 3 _ _ _ r1]; rfl
          have k2 : ∀ p : Regrown, (grow (redrawn w5 p.d) p.os).cell? ⟨g, 2, none⟩ = some (.int .u64 (l : Int)) := fun p => cell_regrown hc2 p.d p.os
          have k3 : ∀ p : Regrown, (grow (redrawn w5 p.d) p.os).cell? ⟨g, 3, none⟩ = some (.int .u64 (m : Int)) := fun p => cell_regrown hc3 p.d p.os
          go_wp2_with (fail)
          refine wp_region_quiet_below (by kernel_rfl) (by kernel_rfl) ?_
          go_big_quiet_step (fail)
          go_big_quiet_step (fail)
          go_big_quiet_step (fail)
          go_big_quiet_step (fail)
          go_big_quiet_step (fail)
          go_big_quiet_step (exact s1.re)
          go_big_quiet_step (exact t1.re)
          go_big_quiet_step (fail)
          go_big_quiet_step (fail)
          go_big_quiet_step (fail)
          go_big_quiet_step (fail)
          go_big_quiet_step (fail)
          go_big_quiet_step (exact s2.re)
          go_big_quiet_step (exact t2.re)
          go_big_quiet_step (fail)
          go_big_quiet_step (fail)
          refine wpQuiet_nil ?_
          rintro _ ⟨p, rfl⟩
          have hb2 := below_regrown w5 p.d p.os
          generalize grow (redrawn w5 p.d) p.os = w6 at *
          replace hb := Below.after hb hb2
          clear hb2 k2 k3 s1 s2 t1 t2
          have cA := r_capped (a + H + A3) w6
          have cB := r_capped (b + H + B3)
          have la := cpd_le (a + H + A3)
          have lb := cpd_le (b + H + B3)
          rw [Int.natCast_add, Int.natCast_add] at cA
          generalize cpd (a + H + A3) = a2 at *
          generalize hcb : cpd (b + H + B3) = b2 at *
          go_wp2_with (fail)
          refine cA.mono ?_
          rintro e_ wa ⟨rfl, hba⟩
          replace hb := Below.after hb hba
          clear cA hba
          have cB1 := cB wa
          rw [Int.natCast_add, Int.natCast_add] at cB1
          go_wp2_with (fail)
          refine cB1.mono ?_
          rintro e_ wb ⟨rfl, hba⟩
          replace hb := Below.after hb hba
          clear cB cB1 hba
          go_wp2_with (fail)
          refine ⟨⟨k + 1, a2, b2, by omega, by go_num, rfl, rfl, la, lb, he.out, hb⟩, ?_⟩
          simp [intOf]; omega
      · have hd : decide ((k : Int) < (ts.length : Int)) = false := by simp; omega
        rw [List.drop_eq_nil_of_le (by omega), spL] at he
        replace he := hide he
        clear h hs ih
        go_wp2_with (fail)
        go_ret2
        exact ⟨by rw [he.out]; rfl, hb⟩
end Go.Proofs.YtdfpmgjholdknaaDoor
