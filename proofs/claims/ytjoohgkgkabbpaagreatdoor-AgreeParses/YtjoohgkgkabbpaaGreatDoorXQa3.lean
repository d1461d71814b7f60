import Derived.Test.YtjoohgkgkabbpaaGreatDoorProg
import Derived.WalkKit
import Derived.WalkSpells
import Derived.WalkLawsBesides
import Derived.Lib.QuietBelow
import Derived.Laws.BitsAllLaws
import Derived.BigQuiet
import Derived.WalkMore
import Derived.Deep.MidRow
import Derived.Test.YtjoohgkgkabbpaaGreatDoorXOpen
import Derived.Test.YtjoohgkgkabbpaaGreatDoorXUc
namespace Go.Proofs.YtjoohgkgkabbpaaGreatDoor
set_option maxRecDepth 100000
open Go Go.RowKit Go.Sort
attribute [local go_sem] setCell_drewN alloc_drewN
def slsz (k : Int) (l m : Nat) (s : Nat × Nat) : Nat × Nat :=
 if k = 1 then ((en l).length, (en m).length) else if k = 2 then (4, 4) else if k = 3 ∨ k = 7 then (8, 8) else if k = 4 then (1, 1) else if k = 5 ∨ k = 6 then (frm l, frm m)
 else if k = 8 then (frm s.1, frm s.2) else (frm (cpd (frm s.1 * l)), frm (cpd (frm s.2 * m)))
def hdl (no k : Int) : Nat := (en (8 * no.toNat + (tyOf k).toNat)).length
def spL : List Slt → Nat → Nat → Nat × Nat
 | [], a, b => (a, b)
 | .mk no k l m sub :: ts, a, b => spL ts (cpd (a + hdl no k + (slsz k l m (spL sub 0 0)).1)) (cpd (b + hdl no k + (slsz k l m (spL sub 0 0)).2))
theorem spL_cons (t : Slt) (ts : List Slt) (a b : Nat) : spL (t :: ts) a b = spL ts (cpd (a + hdl t.no t.kind + (slsz t.kind t.least t.most (spL t.sub 0 0)).1)) (cpd (b + hdl t.no t.kind + (slsz t.kind t.least t.most (spL t.sub 0 0)).2)) := by
 cases t
 rw [spL]
 rfl
def gd : List Slt → Prop
 | [] => True
 | .mk no k l m sub :: ts => ((1 ≤ no ∧ no ≤ 536870911) ∧ fitN k (l : Int) (m : Int) sub.length = true ∧ ((k = 8 ∨ k = 9) → gd sub)) ∧ gd ts
theorem gd_cons (t : Slt) (ts : List Slt) : gd (t :: ts) ↔ ((1 ≤ t.no ∧ t.no ≤ 536870911) ∧ sfit t = true ∧ (nst t → gd t.sub)) ∧ gd ts := by
 cases t
 rw [gd]
 rfl
theorem lfL_gd : ∀ (ts : List Slt) (prev deep room : Int), -1 ≤ room → 0 ≤ lfL ts prev deep room → gd ts
 | [], _, _, _, _, _ => by rw [gd]; trivial
 | .mk no k l m sub :: ts, prev, deep, room, h0, h => by
  rw [gd]
  rw [lfL] at h
  split at h
  ·omega
  ·split at h
   ·omega
   ·rename_i hr hb
    have h1 : ¬ (no < 1) := fun q => hb (.inl q)
    have h2 : ¬ (536870911 < no) := fun q => hb (.inr (.inl q))
    have h3 : fitN k (l : Int) (m : Int) sub.length = true := by
     cases q : fitN k (l : Int) (m : Int) sub.length with
     | true => rfl
     | false => exact absurd (.inr (.inr (.inr q))) hb
    have hl1 := lfL_le sub 0 (deep + 1) (room - 1) (by omega)
    refine ⟨⟨⟨by omega, by omega⟩, h3, fun hk => ?_⟩, ?_⟩
    ·by_cases q : 0 ≤ room - 1
     ·rw [if_pos ⟨hk, q⟩] at h
      by_cases q2 : 16 < sub.length ∨ 6 < deep + 1
      ·rw [if_pos q2, lfL_neg _ _ _ _ (by omega)] at h
       omega
      ·rw [if_neg q2] at h
       by_cases q3 : 0 ≤ lfL sub 0 (deep + 1) (room - 1)
       ·exact lfL_gd sub 0 (deep + 1) (room - 1) (by omega) q3
       ·rw [lfL_neg ts _ _ _ (by omega)] at h
        omega
     ·rw [if_neg (fun x => q x.2), lfL_neg _ _ _ _ (by omega)] at h
      omega
    ·refine lfL_gd ts no deep _ ?_ h
     split
     ·split
      ·omega
      ·exact hl1.2
     ·omega
theorem lft_gd (ts : List Slt) (deep room : Int) (h0 : -1 ≤ room) (h : 0 ≤ lft ts deep room) : gd ts := by
 unfold lft at h
 split at h
 ·omega
 ·exact lfL_gd _ _ _ _ h0 h
theorem gd_at : ∀ (ts : List Slt) (i : Nat), i < ts.length → gd ts → (1 ≤ (gs ts i).no ∧ (gs ts i).no ≤ 536870911) ∧ sfit (gs ts i) = true ∧ (nst (gs ts i) → gd (gs ts i).sub)
 | [], i, hi, _ => by simp at hi
 | t :: ts, 0, _, h => ((gd_cons t ts).1 h).1
 | t :: ts, i + 1, hi, h => gd_at ts i (by simp at hi; omega) ((gd_cons t ts).1 h).2
theorem fit_cases {k : Int} {l m n : Nat} (h : fitN k (l : Int) (m : Int) n = true) : (k = 1 ∧ l ≤ m) ∨ (k = 2 ∧ l ≤ m ∧ m < 4294967296) ∨ (k = 3 ∧ l ≤ m) ∨ k = 4 ∨ ((k = 5 ∨ k = 6) ∧ l ≤ m ∧ m ≤ 4194304) ∨ k = 7 ∨ k = 8 ∨ (k = 9 ∧ l ≤ m ∧ m ≤ 4096) := by
 rcases kind_cases k with rfl | rfl | rfl | rfl | rfl | rfl | rfl | rfl | rfl | ⟨h1, h2, h3, h4, h5, h6, h7, h8, h9⟩
 all_goals try (simp [fitN, fitB] at h; omega)
 simp [fitN, fitB, h1, h2, h3, h4, h5, h6, h7, h8, h9] at h
theorem frm_le (n : Nat) : frm n ≤ 4194305 := cpd_le _
theorem spL_le : ∀ (ts : List Slt) (a b : Nat), a ≤ 4194305 → b ≤ 4194305 → (spL ts a b).1 ≤ 4194305 ∧ (spL ts a b).2 ≤ 4194305
 | [], a, b, h1, h2 => by rw [spL]; exact ⟨h1, h2⟩
 | t :: ts, a, b, _, _ => by
  rw [spL_cons]
  exact spL_le ts _ _ (cpd_le _) (cpd_le _)
end Go.Proofs.YtjoohgkgkabbpaaGreatDoor
namespace Go.Proofs.YtjoohgkgkabbpaaGreatDoor
set_option maxRecDepth 100000
open Go Go.RowKit Go.Sort
attribute [local go_sem] setCell_drewN alloc_drewN
theorem wpList_load_sl {ops : Array Oper} {rest : List Oper} {o : Oper} {a : Act} {w : World} {Q : Exit → Act → World → Prop} (hw : Region.wanted o (yielded ops a.tmps) = true) (x : Operand) (ho : o.op = .load 114 x)
 (g off : Nat) (hx : a.eval x = .pointer (some ⟨g, off, none⟩)) (c0 c1 c2 c3 c4 : Value) (hr : w.rangeAt g off [c0, c1, c2, c3, c4])
 (h : wpList Tryz.prog ops Q rest (a.put o.dst (.agg #[c0, c1, c2, c3, c4])) w) : wpList Tryz.prog ops Q (o :: rest) a w :=
 BigFrame.wpList_want hw fun _ hK => wp_load_mid 114 x ho g off hx [c0, c1, c2, c3, c4] _ hr Tryz.underlying114 rfl infoS (hK _ _ h)
theorem tyOf_nat (k : Int) : ∃ T : Nat, tyOf k = (T : Int) ∧ T ≤ 5 := by
 unfold tyOf
 split
 ·exact ⟨5, rfl, by omega⟩
 ·split
  ·exact ⟨1, rfl, by omega⟩
  ·split
   ·exact ⟨0, rfl, by omega⟩
   ·exact ⟨2, rfl, by omega⟩
set_option maxRecDepth 100000 in
set_option maxHeartbeats 16000000 in
theorem r_span {W : World} {v : Value} {ts : List Slt} (h : Slo W v ts) : gd ts → ∀ (w : World), Below W.heap.size W w → Calls Tryz.prog 116 #[v] w fun e w' => e = .returned (.tuple #[.int .i64 ((spL ts 0 0).1 : Int), .int .i64 ((spL ts 0 0).2 : Int)]) ∧ Below w.heap.size w w' := by
 induction h with
 | mk ao cap ts us hl hc hn h hs ih =>
  intro hgd w hw
  go_enter Tryz.func116, Tryz.ntmps116
  go_wp2_with (fail)
  go_loopw [4, 5, 6] (fun s t i wr => ∃ (k a b : Nat), k ≤ ts.length ∧ i = .int .i64 k ∧ s = .int .i64 (a : Int) ∧ t = .int .i64 (b : Int) ∧ a ≤ 4194305 ∧ b ≤ 4194305 ∧ spL ts 0 0 = spL (ts.drop k) a b ∧ Below w.heap.size w wr) (fun _ _ i _ => ts.length - (intOf i).toNat)
  case atStart => exact ⟨0, 0, 0, by omega, rfl, rfl, rfl, by omega, by omega, rfl, Below.refl _ _⟩
  case round =>
   obtain ⟨k, a, b, hk, rfl, rfl, rfl, ha, hb', he, hb⟩ := hrel
   have hww := Below.after hw hb
   by_cases hlt : k < ts.length
   ·have hd : decide ((k : Int) < (ts.length : Int)) = true := by simp; omega
    obtain ⟨⟨hn1, hn2⟩, hfit, hsubg⟩ := gd_at ts k hlt hgd
    rw [sdrop ts k hlt, spL_cons] at he
    obtain ⟨bb, off, hao, hbl, hra, hok⟩ := h k hlt
    obtain ⟨so, sc, hsf⟩ := (hs k hlt).form
    have cI := ih k hlt
    subst hao
    have hrw := rangeS_keep2 hra hww hbl
    have hk1 : 0 ≤ (k : Int) ∧ (k : Int) < (ts.length : Int) := by omega
    have hsl := spL_le (gs ts k).sub 0 0 (by omega) (by omega)
    have hcas := fit_cases hfit
    have hlb := hok.2.2.1
    have hmb := hok.2.2.2
    unfold srow at hrw
    clear h hs ih hra hok hfit
    obtain ⟨N, hN⟩ : ∃ N : Nat, (gs ts k).no = (N : Int) := ⟨(gs ts k).no.toNat, by omega⟩
    obtain ⟨T, hT, hT5⟩ := tyOf_nat (gs ts k).kind
    have hhd : hdl (gs ts k).no (gs ts k).kind = (en (8 * N + T)).length := by rw [hdl, hN, hT]; rfl
    have hel : (en (8 * N + T)).length ≤ 10 := en_ten (by omega)
    have cT := r_typeOf (gs ts k).kind
    have cS := r_size (8 * N + T) (by omega)
    rw [Int.natCast_add, Int.natCast_mul] at cS
    rw [hT] at cT
    rw [hhd] at he
    generalize (en (8 * N + T)).length = H at *
    rw [hN] at hrw hn1 hn2
    generalize gvs us k = u at *
    generalize (gs ts k).least = l at *
    generalize (gs ts k).most = m at *
    have hnd : nst (gs ts k) ↔ (gs ts k).kind = 8 ∨ (gs ts k).kind = 9 := Iff.rfl
    generalize (gs ts k).kind = kd at *
    generalize (gs ts k).sub = sub at *
    generalize (gs ts k).no = no' at *
    clear hT hN hhd
    subst hsf
    have r0 := hp1_0 wr (.cells #[.int .i64 0, .int .i64 0, .int .u64 0, .int .u64 0, .slice none 0 0] 114)
    have hone : (#[.int .i64 (N : Int), .int .i64 kd, .int .u64 (l : Int), .int .u64 (m : Int), .slice so sub.length sc] : Array Value).all (·.oneCell') = true := by simp [Value.oneCell']
    have hba : Below wr.heap.size wr ((wr.alloc (.cells #[.int .i64 0, .int .i64 0, .int .u64 0, .int .u64 0, .slice none 0 0] 114)).setRow wr.heap.size #[.int .i64 (N : Int), .int .i64 kd, .int .u64 (l : Int), .int .u64 (m : Int), .slice so sub.length sc]) := below_setRow ((Below.refl _ _).alloc (Nat.le_refl _) _) (Nat.le_refl _) #[.int .i64 (N : Int), .int .i64 kd, .int .u64 (l : Int), .int .u64 (m : Int), .slice so sub.length sc]
    have r1 := setRow_heap _ wr.heap.size _ #[.int .i64 (N : Int), .int .i64 kd, .int .u64 (l : Int), .int .u64 (m : Int), .slice so sub.length sc] _ _ r0
    go_wp2_with (first | (refine wpList_load_sl rfl _ rfl bb (off + k * 5) rfl _ _ _ _ _ hrw ?_) | (refine wpList_alloc rfl 114 rfl #[.int .i64 0, .int .i64 0, .int .u64 0, .int .u64 0, .slice none 0 0] zSl ?_) | (refine wpList_store_row rfl 114 _ _ rfl (wr.heap.size) #[.int .i64 (N : Int), .int .i64 kd, .int .u64 (l : Int), .int .u64 (m : Int), .slice so sub.length sc] rfl rfl 114 _ r0 infoS rfl hone ?_) | fail)
    replace hb := Below.after hb hba
    replace hww := Below.after hww hba
    clear r0 hone hba
    generalize (wr.alloc (.cells #[.int .i64 0, .int .i64 0, .int .u64 0, .int .u64 0, .slice none 0 0] 114)).setRow wr.heap.size #[.int .i64 (N : Int), .int .i64 kd, .int .u64 (l : Int), .int .u64 (m : Int), .slice so sub.length sc] = w1 at *
    generalize wr.heap.size = g at *
    have hc0 : w1.cell? ⟨g, 0, none⟩ = some (.int .i64 (N : Int)) := by rw [cell_of_row _ g 0 _ _ _ r1]; rfl
    have hc1 : w1.cell? ⟨g, 1, none⟩ = some (.int .i64 kd) := by rw [cell_of_row _ g 1 _ _ _ r1]; rfl
    have k0 : ∀ p : Regrown, (grow (redrawn w1 p.d) p.os).cell? ⟨g, 0, none⟩ = some (.int .i64 (N : Int)) := fun p => cell_regrown hc0 p.d p.os
    have k1 : ∀ p : Regrown, (grow (redrawn w1 p.d) p.os).cell? ⟨g, 1, none⟩ = some (.int .i64 kd) := fun p => cell_regrown hc1 p.d p.os
    have cT1 : GivesB w1 92 #[.int .i64 kd] (.int .i64 (T : Int)) := fun V _ => cT V
    have cS1 : GivesB w1 117 #[.int .u64 (8 * (N : Int) + (T : Int))] (.int .i64 (H : Int)) := fun V _ => cS V
    have hNb : 0 ≤ 8 * (N : Int) + (T : Int) ∧ 8 * (N : Int) + (T : Int) ≤ 4294967301 := by omega
    have hNc : 0 ≤ 8 * (N : Int) ∧ 8 * (N : Int) ≤ 4294967296 := by omega
    clear cT cS hc0 hc1
    simp only [Act.put, List.setIfInBounds_toArray, List.set_cons_succ, List.set_cons_zero]
    refine wp_region_quiet_below (by kernel_rfl) (by kernel_rfl) ?_
    go_big_quiet_step (fail)
    go_big_quiet_step (fail)
    go_big_quiet_step (fail)
    go_big_quiet_step (fail)
    go_big_quiet_step (fail)
    go_big_quiet_step (exact cT1.re)
    go_big_quiet_step (fail)
    go_big_quiet_step (fail)
    go_big_quiet_step (exact cS1.re)
    go_big_quiet_step (fail)
    refine wpQuiet_nil ?_
    rintro _ ⟨p, rfl⟩
    have hb2 := below_regrown w1 p.d p.os
    generalize grow (redrawn w1 p.d) p.os = w2 at *
    replace r1 := keep hb2 r1
    replace hb := Below.after hb hb2
    replace hww := Below.after hww hb2
    clear hb2 k0 k1 cT1 cS1
    have hc1 : w2.cell? ⟨g, 1, none⟩ = some (.int .i64 kd) := by rw [cell_of_row _ g 1 _ _ _ r1]; rfl
    rcases hcas with ⟨rfl, hlm⟩ | ⟨rfl, hlm, hm3⟩ | ⟨rfl, hlm⟩ | rfl | ⟨hk56, hlm, hm4⟩ | rfl | rfl | ⟨rfl, hlm, hm4⟩
    ·rw [show slsz 1 l m (spL sub 0 0) = ((en l).length, (en m).length) from rfl] at he
     replace he := hide he
     have e1 := en_ten hlb
     have e2 := en_ten hmb
     have s1 : GivesB w2 117 #[.int .u64 (l : Int)] (.int .i64 ((en l).length : Int)) := fun V _ => r_size l hlb V
     have s2 : GivesB w2 117 #[.int .u64 (m : Int)] (.int .i64 ((en m).length : Int)) := fun V _ => r_size m hmb V
     generalize (en l).length = A at *
     generalize (en m).length = Bm at *
     have hc2 : w2.cell? ⟨g, 2, none⟩ = some (.int .u64 (l : Int)) := by rw [cell_of_row _ g 2 _ _ _ r1]; rfl
     have hc3 : w2.cell? ⟨g, 3, none⟩ = some (.int .u64 (m : Int)) := by rw [cell_of_row _ g 3 _ _ _ r1]; rfl
     have k2 : ∀ p : Regrown, (grow (redrawn w2 p.d) p.os).cell? ⟨g, 2, none⟩ = some (.int .u64 (l : Int)) := fun p => cell_regrown hc2 p.d p.os
     have k3 : ∀ p : Regrown, (grow (redrawn w2 p.d) p.os).cell? ⟨g, 3, none⟩ = some (.int .u64 (m : Int)) := fun p => cell_regrown hc3 p.d p.os
     clear cI hnd hsubg hsl
     go_wp2_with (fail)
     refine wp_region_quiet_below (by kernel_rfl) (by kernel_rfl) ?_
     go_big_quiet_step (fail)
     go_big_quiet_step (fail)
     go_big_quiet_step (exact s1.re)
     go_big_quiet_step (fail)
     go_big_quiet_step (fail)
     go_big_quiet_step (exact s2.re)
     go_big_quiet_step (fail)
     go_big_quiet_step (fail)
     refine wpQuiet_nil ?_
     rintro _ ⟨p, rfl⟩
     have hb2 := below_regrown w2 p.d p.os
     generalize grow (redrawn w2 p.d) p.os = w3 at *
     replace hb := Below.after hb hb2
     clear hb2 k2 k3 s1 s2
     have cA := r_capped (a + H + A) w3
     have cB := r_capped (b + H + Bm)
     have la := cpd_le (a + H + A)
     have lb := cpd_le (b + H + Bm)
     rw [Int.natCast_add, Int.natCast_add] at cA
     generalize cpd (a + H + A) = a2 at *
     generalize hcb : cpd (b + H + Bm) = b2 at *
     go_wp2_with (fail)
     refine cA.mono ?_
     rintro e_ wa ⟨rfl, hba⟩
     replace hb := Below.after hb hba
     clear cA hba
     have cB1 := cB wa
     rw [Int.natCast_add, Int.natCast_add] at cB1
     go_wp2_with (fail)
     refine cB1.mono ?_
     rintro e_ wb ⟨rfl, hba⟩
     replace hb := Below.after hb hba
     clear cB cB1 hba
     go_wp2_with (fail)
     refine ⟨⟨k + 1, a2, b2, by omega, by go_num, rfl, rfl, la, lb, he.out, hb⟩, ?_⟩
     simp [intOf]; omega
    ·rw [show slsz 2 l m (spL sub 0 0) = (4, 4) from rfl] at he
     replace he := hide he
     clear cI hnd hsubg hsl
     have cA := r_capped (a + H + 4) w2
     have cB := r_capped (b + H + 4)
     have la := cpd_le (a + H + 4)
     have lb := cpd_le (b + H + 4)
     rw [Int.natCast_add, Int.natCast_add] at cA
     generalize cpd (a + H + 4) = a2 at *
     generalize hcb : cpd (b + H + 4) = b2 at *
     go_wp2_with (fail)
     refine cA.mono ?_
     rintro e_ wa ⟨rfl, hba⟩
     replace hb := Below.after hb hba
     clear cA hba
     have cB1 := cB wa
     rw [Int.natCast_add, Int.natCast_add] at cB1
     go_wp2_with (fail)
     refine cB1.mono ?_
     rintro e_ wb ⟨rfl, hba⟩
     replace hb := Below.after hb hba
     clear cB cB1 hba
     go_wp2_with (fail)
     refine ⟨⟨k + 1, a2, b2, by omega, by go_num, rfl, rfl, la, lb, he.out, hb⟩, ?_⟩
     simp [intOf]; omega
    ·rw [show slsz 3 l m (spL sub 0 0) = (8, 8) from rfl] at he
     replace he := hide he
     clear cI hnd hsubg hsl
     have cA := r_capped (a + H + 8) w2
     have cB := r_capped (b + H + 8)
     have la := cpd_le (a + H + 8)
     have lb := cpd_le (b + H + 8)
     rw [Int.natCast_add, Int.natCast_add] at cA
     generalize cpd (a + H + 8) = a2 at *
     generalize hcb : cpd (b + H + 8) = b2 at *
     go_wp2_with (fail)
     refine cA.mono ?_
     rintro e_ wa ⟨rfl, hba⟩
     replace hb := Below.after hb hba
     clear cA hba
     have cB1 := cB wa
     rw [Int.natCast_add, Int.natCast_add] at cB1
     go_wp2_with (fail)
     refine cB1.mono ?_
     rintro e_ wb ⟨rfl, hba⟩
     replace hb := Below.after hb hba
     clear cB cB1 hba
     go_wp2_with (fail)
     refine ⟨⟨k + 1, a2, b2, by omega, by go_num, rfl, rfl, la, lb, he.out, hb⟩, ?_⟩
     simp [intOf]; omega
    ·rw [show slsz 4 l m (spL sub 0 0) = (1, 1) from rfl] at he
     replace he := hide he
     clear cI hnd hsubg hsl
     have cA := r_capped (a + H + 1) w2
     have cB := r_capped (b + H + 1)
     have la := cpd_le (a + H + 1)
     have lb := cpd_le (b + H + 1)
     rw [Int.natCast_add, Int.natCast_add] at cA
     generalize cpd (a + H + 1) = a2 at *
     generalize hcb : cpd (b + H + 1) = b2 at *
     go_wp2_with (fail)
     refine cA.mono ?_
     rintro e_ wa ⟨rfl, hba⟩
     replace hb := Below.after hb hba
     clear cA hba
     have cB1 := cB wa
     rw [Int.natCast_add, Int.natCast_add] at cB1
     go_wp2_with (fail)
     refine cB1.mono ?_
     rintro e_ wb ⟨rfl, hba⟩
     replace hb := Below.after hb hba
     clear cB cB1 hba
     go_wp2_with (fail)
     refine ⟨⟨k + 1, a2, b2, by omega, by go_num, rfl, rfl, la, lb, he.out, hb⟩, ?_⟩
     simp [intOf]; omega
    ·have hsz : slsz kd l m (spL sub 0 0) = (frm l, frm m) := by rcases hk56 with rfl | rfl <;> rfl
     rw [hsz] at he
     replace he := hide he
     have e1 := frm_le l
     have e2 := frm_le m
     have s1 : GivesB w2 135 #[.int .i64 (l : Int)] (.int .i64 (frm l : Int)) := fun V _ => r_framed l (by omega) V
     have s2 : GivesB w2 135 #[.int .i64 (m : Int)] (.int .i64 (frm m : Int)) := fun V _ => r_framed m (by omega) V
     generalize frm l = A at *
     generalize frm m = Bm at *
     have hc2 : w2.cell? ⟨g, 2, none⟩ = some (.int .u64 (l : Int)) := by rw [cell_of_row _ g 2 _ _ _ r1]; rfl
     have hc3 : w2.cell? ⟨g, 3, none⟩ = some (.int .u64 (m : Int)) := by rw [cell_of_row _ g 3 _ _ _ r1]; rfl
     have k2 : ∀ p : Regrown, (grow (redrawn w2 p.d) p.os).cell? ⟨g, 2, none⟩ = some (.int .u64 (l : Int)) := fun p => cell_regrown hc2 p.d p.os
     have k3 : ∀ p : Regrown, (grow (redrawn w2 p.d) p.os).cell? ⟨g, 3, none⟩ = some (.int .u64 (m : Int)) := fun p => cell_regrown hc3 p.d p.os
     clear cI hnd hsubg hsl hsz
     rcases hk56 with rfl | rfl
     all_goals
      go_wp2_with (fail)
      refine wp_region_quiet_below (by kernel_rfl) (by kernel_rfl) ?_
      go_big_quiet_step (fail)
      go_big_quiet_step (fail)
      go_big_quiet_step (fail)
      go_big_quiet_step (exact s1.re)
      go_big_quiet_step (fail)
      go_big_quiet_step (fail)
      go_big_quiet_step (fail)
      go_big_quiet_step (exact s2.re)
      go_big_quiet_step (fail)
      go_big_quiet_step (fail)
      refine wpQuiet_nil ?_
      rintro _ ⟨p, rfl⟩
      have hb2 := below_regrown w2 p.d p.os
      generalize grow (redrawn w2 p.d) p.os = w3 at *
      replace hb := Below.after hb hb2
      clear hb2 k2 k3 s1 s2
      have cA := r_capped (a + H + A) w3
      have cB := r_capped (b + H + Bm)
      have la := cpd_le (a + H + A)
      have lb := cpd_le (b + H + Bm)
      rw [Int.natCast_add, Int.natCast_add] at cA
      generalize cpd (a + H + A) = a2 at *
      generalize hcb : cpd (b + H + Bm) = b2 at *
      go_wp2_with (fail)
      refine cA.mono ?_
      rintro e_ wa ⟨rfl, hba⟩
      replace hb := Below.after hb hba
      clear cA hba
      have cB1 := cB wa
      rw [Int.natCast_add, Int.natCast_add] at cB1
      go_wp2_with (fail)
      refine cB1.mono ?_
      rintro e_ wb ⟨rfl, hba⟩
      replace hb := Below.after hb hba
      clear cB cB1 hba
      go_wp2_with (fail)
      refine ⟨⟨k + 1, a2, b2, by omega, by go_num, rfl, rfl, la, lb, he.out, hb⟩, ?_⟩
      simp [intOf]; omega
    ·rw [show slsz 7 l m (spL sub 0 0) = (8, 8) from rfl] at he
     replace he := hide he
     clear cI hnd hsubg hsl
     have cA := r_capped (a + H + 8) w2
     have cB := r_capped (b + H + 8)
     have la := cpd_le (a + H + 8)
     have lb := cpd_le (b + H + 8)
     rw [Int.natCast_add, Int.natCast_add] at cA
     generalize cpd (a + H + 8) = a2 at *
     generalize hcb : cpd (b + H + 8) = b2 at *
     go_wp2_with (fail)
     refine cA.mono ?_
     rintro e_ wa ⟨rfl, hba⟩
     replace hb := Below.after hb hba
     clear cA hba
     have cB1 := cB wa
     rw [Int.natCast_add, Int.natCast_add] at cB1
     go_wp2_with (fail)
     refine cB1.mono ?_
     rintro e_ wb ⟨rfl, hba⟩
     replace hb := Below.after hb hba
     clear cB cB1 hba
     go_wp2_with (fail)
     refine ⟨⟨k + 1, a2, b2, by omega, by go_num, rfl, rfl, la, lb, he.out, hb⟩, ?_⟩
     simp [intOf]; omega
    ·rw [show slsz 8 l m (spL sub 0 0) = (frm (spL sub 0 0).1, frm (spL sub 0 0).2) from rfl] at he
     replace he := hide he
     have cX := cI (hsubg (hnd.2 (.inl rfl))) w2 hww
     have hc4 : w2.cell? ⟨g, 4, none⟩ = some (.slice so sub.length sc) := by rw [cell_of_row _ g 4 _ _ _ r1]; rfl
     obtain ⟨x1, x2⟩ := hsl
     have cF1 := r_framed (spL sub 0 0).1 (by omega)
     have cF2 := r_framed (spL sub 0 0).2 (by omega)
     have e1 := frm_le (spL sub 0 0).1
     have e2 := frm_le (spL sub 0 0).2
     generalize hf1 : frm (spL sub 0 0).1 = A at *
     generalize hf2 : frm (spL sub 0 0).2 = Bm at *
     generalize (spL sub 0 0).1 = X at *
     generalize (spL sub 0 0).2 = Y at *
     replace hf1 := hide hf1
     replace hf2 := hide hf2
     clear cI hnd hsubg
     go_wp2_with (fail)
     refine cX.mono ?_
     rintro e_ w3 ⟨rfl, hb3⟩
     replace r1 := keep hb3 r1
     replace hb := Below.after hb hb3
     clear cX hb3
     have cG := cF1 w3
     go_wp2_with (fail)
     refine cG.mono ?_
     rintro e_ w4 ⟨rfl, hb3⟩
     replace r1 := keep hb3 r1
     replace hb := Below.after hb hb3
     clear cG hb3
     have cG := cF2 w4
     go_wp2_with (fail)
     refine cG.mono ?_
     rintro e_ w5 ⟨rfl, hb3⟩
     replace r1 := keep hb3 r1
     replace hb := Below.after hb hb3
     clear cG hb3 cF1 cF2
     have cA := r_capped (a + H + A) w5
     have cB := r_capped (b + H + Bm)
     have la := cpd_le (a + H + A)
     have lb := cpd_le (b + H + Bm)
     rw [Int.natCast_add, Int.natCast_add] at cA
     generalize cpd (a + H + A) = a2 at *
     generalize hcb : cpd (b + H + Bm) = b2 at *
     go_wp2_with (fail)
     refine cA.mono ?_
     rintro e_ wa ⟨rfl, hba⟩
     replace hb := Below.after hb hba
     clear cA hba
     have cB1 := cB wa
     rw [Int.natCast_add, Int.natCast_add] at cB1
     go_wp2_with (fail)
     refine cB1.mono ?_
     rintro e_ wb ⟨rfl, hba⟩
     replace hb := Below.after hb hba
     clear cB cB1 hba
     go_wp2_with (fail)
     refine ⟨⟨k + 1, a2, b2, by omega, by go_num, rfl, rfl, la, lb, he.out, hb⟩, ?_⟩
     simp [intOf]; omega
    ·rw [show slsz 9 l m (spL sub 0 0) = (frm (cpd (frm (spL sub 0 0).1 * l)), frm (cpd (frm (spL sub 0 0).2 * m))) from rfl] at he
     replace he := hide he
     have cX := cI (hsubg (hnd.2 (.inr rfl))) w2 hww
     have hc4 : w2.cell? ⟨g, 4, none⟩ = some (.slice so sub.length sc) := by rw [cell_of_row _ g 4 _ _ _ r1]; rfl
     obtain ⟨x1, x2⟩ := hsl
     have cF1 := r_framed (spL sub 0 0).1 (by omega)
     have cF2 := r_framed (spL sub 0 0).2 (by omega)
     have e1 := frm_le (spL sub 0 0).1
     have e2 := frm_le (spL sub 0 0).2
     generalize hf1 : frm (spL sub 0 0).1 = A at *
     generalize hf2 : frm (spL sub 0 0).2 = Bm at *
     generalize (spL sub 0 0).1 = X at *
     generalize (spL sub 0 0).2 = Y at *
     replace hf1 := hide hf1
     replace hf2 := hide hf2
     clear cI hnd hsubg
     go_wp2_with (fail)
     refine cX.mono ?_
     rintro e_ w3 ⟨rfl, hb3⟩
     replace r1 := keep hb3 r1
     replace hb := Below.after hb hb3
     clear cX hb3
     have cG := cF1 w3
     go_wp2_with (fail)
     refine cG.mono ?_
     rintro e_ w4 ⟨rfl, hb3⟩
     replace r1 := keep hb3 r1
     replace hb := Below.after hb hb3
     clear cG hb3
     have cG := cF2 w4
     go_wp2_with (fail)
     refine cG.mono ?_
     rintro e_ w5 ⟨rfl, hb3⟩
     replace r1 := keep hb3 r1
     replace hb := Below.after hb hb3
     clear cG hb3 cF1 cF2
     have p1 : A * l ≤ 4194305 * 4096 := Nat.mul_le_mul e1 (by omega)
     have p2 : Bm * m ≤ 4194305 * 4096 := Nat.mul_le_mul e2 hm4
     have q1 := cpd_le (A * l)
     have q2 := cpd_le (Bm * m)
     have s1 : GivesB w5 136 #[.int .i64 ((A : Int) * (l : Int))] (.int .i64 (cpd (A * l) : Int)) := fun V _ => by have := r_capped (A * l) V; rwa [Int.natCast_mul] at this
     have s2 : GivesB w5 136 #[.int .i64 ((Bm : Int) * (m : Int))] (.int .i64 (cpd (Bm * m) : Int)) := fun V _ => by have := r_capped (Bm * m) V; rwa [Int.natCast_mul] at this
     have t1 : GivesB w5 135 #[.int .i64 (cpd (A * l) : Int)] (.int .i64 (frm (cpd (A * l)) : Int)) := fun V _ => r_framed _ (by omega) V
     have t2 : GivesB w5 135 #[.int .i64 (cpd (Bm * m) : Int)] (.int .i64 (frm (cpd (Bm * m)) : Int)) := fun V _ => r_framed _ (by omega) V
     have z1 := frm_le (cpd (A * l))
     have z2 := frm_le (cpd (Bm * m))
     have p3 : 0 ≤ (A : Int) * (l : Int) ∧ (A : Int) * (l : Int) ≤ 17179873280 := by rw [← Int.natCast_mul]; omega
     have p4 : 0 ≤ (Bm : Int) * (m : Int) ∧ (Bm : Int) * (m : Int) ≤ 17179873280 := by rw [← Int.natCast_mul]; omega
     generalize frm (cpd (A * l)) = A3 at *
     generalize frm (cpd (Bm * m)) = B3 at *
     generalize cpd (A * l) = A2 at *
     generalize cpd (Bm * m) = B2 at *
     have hc2 : w5.cell? ⟨g, 2, none⟩ = some (.int .u64 (l : Int)) := by rw [cell_of_row _ g 2 _ _ _ r1]; rfl
     have hc3 : w5.cell? ⟨g, 3, none⟩ = some (.int .u64 (m : Int)) := by rw [cell_of_row _ g 3 _ _ _ r1]; rfl
     have k2 : ∀ p : Regrown, (grow (redrawn w5 p.d) p.os).cell? ⟨g, 2, none⟩ = some (.int .u64 (l : Int)) := fun p => cell_regrown hc2 p.d p.os
     have k3 : ∀ p : Regrown, (grow (redrawn w5 p.d) p.os).cell? ⟨g, 3, none⟩ = some (.int .u64 (m : Int)) := fun p => cell_regrown hc3 p.d p.os
     go_wp2_with (fail)
     refine wp_region_quiet_below (by kernel_rfl) (by kernel_rfl) ?_
     go_big_quiet_step (fail)
     go_big_quiet_step (fail)
     go_big_quiet_step (fail)
     go_big_quiet_step (fail)
     go_big_quiet_step (fail)
     go_big_quiet_step (exact s1.re)
     go_big_quiet_step (exact t1.re)
     go_big_quiet_step (fail)
     go_big_quiet_step (fail)
     go_big_quiet_step (fail)
     go_big_quiet_step (fail)
     go_big_quiet_step (fail)
     go_big_quiet_step (exact s2.re)
     go_big_quiet_step (exact t2.re)
     go_big_quiet_step (fail)
     go_big_quiet_step (fail)
     refine wpQuiet_nil ?_
     rintro _ ⟨p, rfl⟩
     have hb2 := below_regrown w5 p.d p.os
     generalize grow (redrawn w5 p.d) p.os = w6 at *
     replace hb := Below.after hb hb2
     clear hb2 k2 k3 s1 s2 t1 t2
     have cA := r_capped (a + H + A3) w6
     have cB := r_capped (b + H + B3)
     have la := cpd_le (a + H + A3)
     have lb := cpd_le (b + H + B3)
     rw [Int.natCast_add, Int.natCast_add] at cA
     generalize cpd (a + H + A3) = a2 at *
     generalize hcb : cpd (b + H + B3) = b2 at *
     go_wp2_with (fail)
     refine cA.mono ?_
     rintro e_ wa ⟨rfl, hba⟩
     replace hb := Below.after hb hba
     clear cA hba
     have cB1 := cB wa
     rw [Int.natCast_add, Int.natCast_add] at cB1
     go_wp2_with (fail)
     refine cB1.mono ?_
     rintro e_ wb ⟨rfl, hba⟩
     replace hb := Below.after hb hba
     clear cB cB1 hba
     go_wp2_with (fail)
     refine ⟨⟨k + 1, a2, b2, by omega, by go_num, rfl, rfl, la, lb, he.out, hb⟩, ?_⟩
     simp [intOf]; omega
   ·have hd : decide ((k : Int) < (ts.length : Int)) = false := by simp; omega
    rw [List.drop_eq_nil_of_le (by omega), spL] at he
    replace he := hide he
    clear h hs ih
    go_wp2_with (fail)
    go_ret2
    exact ⟨by rw [he.out]; rfl, hb⟩
end Go.Proofs.YtjoohgkgkabbpaaGreatDoor
namespace Go.Proofs.YtjoohgkgkabbpaaGreatDoor
set_option maxRecDepth 100000
open Go Go.RowKit Go.Sort
attribute [local go_sem] setCell_drewN alloc_drewN
def vld (ts : List Slt) : Int := if lft ts 1 256 < 0 then 80 else if 4194304 < (spL ts 0 0).2 then 2 else 0
theorem r_valid {W : World} {v : Value} {ts : List Slt} (h : Slo W v ts) : ∀ (w : World), Below W.heap.size W w → Calls Tryz.prog 89 #[v] w fun e w' => e = .returned (.int .i64 (vld ts)) ∧ Below w.heap.size w w' := by
 intro w hw
 have cL := r_left h w 1 256 hw (by omega) (by omega) (by omega) (by omega)
 by_cases h1 : lft ts 1 256 < 0
 ·have d1 : decide (lft ts 1 256 < 0) = true := by simpa using h1
  have hv : Hid (vld ts = 80) := hide (if_pos h1)
  generalize lft ts 1 256 = x at *
  clear h1
  go_enter Tryz.func89, Tryz.ntmps89
  go_wp2_with (fail)
  refine cL.mono ?_
  rintro e_ w1 ⟨rfl, hb⟩
  go_wp2_with (fail)
  go_ret
  exact ⟨by rw [hv.out]; rfl, hb⟩
 ·have d1 : decide (lft ts 1 256 < 0) = false := by simpa using h1
  have hg := lft_gd ts 1 256 (by omega) (by omega)
  have hv0 : vld ts = if 4194304 < (spL ts 0 0).2 then 2 else 0 := if_neg h1
  generalize lft ts 1 256 = x at *
  clear h1
  go_enter Tryz.func89, Tryz.ntmps89
  go_wp2_with (fail)
  refine cL.mono ?_
  rintro e_ w1 ⟨rfl, hb⟩
  have cS := r_span h hg w1 (Below.after hw hb)
  clear cL
  generalize (spL ts 0 0).1 = a at *
  generalize (spL ts 0 0).2 = b at *
  by_cases h2 : 4194304 < b
  ·have d2 : decide ((b : Int) > 4194304) = true := by simp; omega
   rw [if_pos h2] at hv0
   replace hv0 := hide hv0
   clear h2
   go_wp2_with (fail)
   refine cS.mono ?_
   rintro e_ w2 ⟨rfl, hb2⟩
   replace hb := Below.after hb hb2
   go_wp2_with (fail)
   go_ret
   exact ⟨by rw [hv0.out]; rfl, hb⟩
  ·have d2 : decide ((b : Int) > 4194304) = false := by simp; omega
   rw [if_neg h2] at hv0
   replace hv0 := hide hv0
   clear h2
   go_wp2_with (fail)
   refine cS.mono ?_
   rintro e_ w2 ⟨rfl, hb2⟩
   replace hb := Below.after hb hb2
   go_wp2_with (fail)
   go_ret
   exact ⟨by rw [hv0.out]; rfl, hb⟩
end Go.Proofs.YtjoohgkgkabbpaaGreatDoor
namespace Go.Proofs.YtjoohgkgkabbpaaGreatDoor
set_option maxRecDepth 100000
open Go Go.RowKit Go.Sort
attribute [local go_sem] setCell_drewN alloc_drewN
theorem s_headOf (n : Nat) (hn : n ≤ 536870911) : Gives 114 #[.int .i64 (n : Int)] (.int .u64 ((8 * n : Nat) : Int)) := by
 intro w
 have e : ((8 * n : Nat) : Int) = 8 * (n : Int) := by omega
 rw [e]
 clear e
 go_enter Tryz.func114, Tryz.ntmps114
 go_wp2_with (fail)
 go_ret
 exact ⟨rfl, Below.refl _ _⟩
theorem a_sizeOf (n : Nat) (hn : n < 18446744073709551616) : Gives 122 #[.int .u64 (n : Int)] (.int .u64 ((en n).length : Int)) := by
 intro w
 have cS := a_size n hn w
 have hel := en_ten hn
 generalize (en n).length = m at *
 go_enter Tryz.func122, Tryz.ntmps122
 go_wp2_with (fail)
 refine cS.mono ?_
 rintro e_ w1 ⟨rfl, hb⟩
 go_wp2_with (fail)
 go_ret
 exact ⟨rfl, hb⟩
theorem a_counted (n : Nat) (hn : n < 4611686018427387904) : Gives 217 #[.int .u64 (n : Int)] (.int .u64 (((en n).length + n : Nat) : Int)) := by
 intro w
 have cS := a_sizeOf n (by omega) w
 have hel := en_ten (n := n) (by omega)
 generalize (en n).length = m at *
 have e : ((m + n : Nat) : Int) = (m : Int) + (n : Int) := by omega
 rw [e]
 clear e
 go_enter Tryz.func217, Tryz.ntmps217
 go_wp2_with (fail)
 refine cS.mono ?_
 rintro e_ w1 ⟨rfl, hb⟩
 go_wp2_with (fail)
 go_ret
 exact ⟨rfl, hb⟩
end Go.Proofs.YtjoohgkgkabbpaaGreatDoor
namespace Go.Proofs.YtjoohgkgkabbpaaGreatDoor
set_option maxRecDepth 100000
open Go Go.RowKit Go.Sort
attribute [local go_sem] setCell_drewN alloc_drewN
def ctd (n : Nat) : Nat := (en n).length + n
theorem bNum (cs : Array Value) (W : World) : (Instr.box 232 (.agg cs)).run Tryz.prog W = .ok (.pointer (some ⟨W.heap.size, 0, none⟩)) (W.alloc (.cells cs 232)) := by kernel_rfl
theorem bOct (cs : Array Value) (W : World) : (Instr.box 241 (.agg cs)).run Tryz.prog W = .ok (.pointer (some ⟨W.heap.size, 0, none⟩)) (W.alloc (.cells cs 241)) := by kernel_rfl
theorem bFlt (cs : Array Value) (W : World) : (Instr.box 238 (.agg cs)).run Tryz.prog W = .ok (.pointer (some ⟨W.heap.size, 0, none⟩)) (W.alloc (.cells cs 238)) := by kernel_rfl
def nsz (ty : Int) (l m : Nat) : Nat × Nat := if ty = 5 then (4, 4) else if ty = 1 then (8, 8) else ((en l).length, (en m).length)
set_option maxRecDepth 100000 in
set_option maxHeartbeats 4000000 in
theorem a_numSize (ty : Int) (l m : Nat) (hl : l < 18446744073709551616) (hm : m < 18446744073709551616) : Gives 218 #[.agg #[.int .i64 ty, .int .u64 (l : Int), .int .u64 (m : Int)]] (.tuple #[.int .u64 ((nsz ty l m).1 : Int), .int .u64 ((nsz ty l m).2 : Int)]) := by
 intro w
 have R0 := hp1_0 w (.cells #[.int .i64 ty, .int .u64 (l : Int), .int .u64 (m : Int)] 232)
 have hw : Below w.heap.size w (w.alloc (.cells #[.int .i64 ty, .int .u64 (l : Int), .int .u64 (m : Int)] 232)) := (Below.refl _ _).alloc (Nat.le_refl _) _
 have c0 : (w.alloc (.cells #[.int .i64 ty, .int .u64 (l : Int), .int .u64 (m : Int)] 232)).cell? ⟨w.heap.size, 0, none⟩ = some (.int .i64 ty) := cell_of_row _ _ _ _ _ _ R0
 have c1 : (w.alloc (.cells #[.int .i64 ty, .int .u64 (l : Int), .int .u64 (m : Int)] 232)).cell? ⟨w.heap.size, 1, none⟩ = some (.int .u64 (l : Int)) := cell_of_row _ _ _ _ _ _ R0
 have c2 : (w.alloc (.cells #[.int .i64 ty, .int .u64 (l : Int), .int .u64 (m : Int)] 232)).cell? ⟨w.heap.size, 2, none⟩ = some (.int .u64 (m : Int)) := cell_of_row _ _ _ _ _ _ R0
 clear R0
 by_cases h5 : ty = 5
 ·subst h5
  go_enter Tryz.func218, Tryz.ntmps218
  go_wp2_with (first | (refine wpList_box rfl 232 _ rfl _ rfl (bNum _) ?_) | fail)
  go_ret2
  exact ⟨rfl, hw⟩
 by_cases h1 : ty = 1
 ·subst h1
  go_enter Tryz.func218, Tryz.ntmps218
  go_wp2_with (first | (refine wpList_box rfl 232 _ rfl _ rfl (bNum _) ?_) | fail)
  go_ret2
  exact ⟨rfl, hw⟩
 have q5 : (ty == 5) = false := by simpa using h5
 have q1 : (ty == 1) = false := by simpa using h1
 have hz : nsz ty l m = ((en l).length, (en m).length) := by unfold nsz; rw [if_neg h5, if_neg h1]
 rw [hz]
 have e1 := en_ten hl
 have e2 := en_ten hm
 have s1 : ∀ V, GivesB V 122 #[.int .u64 (l : Int)] (.int .u64 ((en l).length : Int)) := fun _ V _ => a_sizeOf l hl V
 have s2 : ∀ V, GivesB V 122 #[.int .u64 (m : Int)] (.int .u64 ((en m).length : Int)) := fun _ V _ => a_sizeOf m hm V
 simp only
 generalize (en l).length = A at *
 generalize (en m).length = Bm at *
 clear hz h1 h5
 go_enter Tryz.func218, Tryz.ntmps218
 go_wp2_with (first | (refine wpList_box rfl 232 _ rfl _ rfl (bNum _) ?_) | fail)
 generalize hW : (w.alloc (.cells #[.int .i64 ty, .int .u64 (l : Int), .int .u64 (m : Int)] 232)) = w1 at *
 replace hW := hide hW
 have k1 : ∀ p : Regrown, (grow (redrawn w1 p.d) p.os).cell? ⟨w.heap.size, 1, none⟩ = some (.int .u64 (l : Int)) := fun p => cell_regrown c1 p.d p.os
 have k2 : ∀ p : Regrown, (grow (redrawn w1 p.d) p.os).cell? ⟨w.heap.size, 2, none⟩ = some (.int .u64 (m : Int)) := fun p => cell_regrown c2 p.d p.os
 refine wp_region_quiet_below (by kernel_rfl) (by kernel_rfl) ?_
 go_big_quiet_step (fail)
 go_big_quiet_step (fail)
 go_big_quiet_step (exact (s1 w1).re)
 go_big_quiet_step (fail)
 go_big_quiet_step (fail)
 go_big_quiet_step (exact (s2 w1).re)
 go_big_quiet_step (fail)
 go_big_quiet_step (fail)
 refine wpQuiet_nil ?_
 rintro _ ⟨p, rfl⟩
 have hb2 := below_regrown w1 p.d p.os
 generalize grow (redrawn w1 p.d) p.os = w2 at *
 replace hw := Below.after hw hb2
 clear hb2 k1 k2 s1 s2
 go_wp2_with (fail)
 go_ret2
 exact ⟨rfl, hw⟩
set_option maxRecDepth 100000 in
set_option maxHeartbeats 4000000 in
theorem a_octSize (l m : Nat) (t : Bool) (hl : l < 4611686018427387904) (hm : m < 4611686018427387904) : Gives 220 #[.agg #[.int .u64 (l : Int), .int .u64 (m : Int), .bool t]] (.tuple #[.int .u64 (ctd l : Int), .int .u64 (ctd m : Int)]) := by
 intro w
 have R0 := hp1_0 w (.cells #[.int .u64 (l : Int), .int .u64 (m : Int), .bool t] 241)
 have hw : Below w.heap.size w (w.alloc (.cells #[.int .u64 (l : Int), .int .u64 (m : Int), .bool t] 241)) := (Below.refl _ _).alloc (Nat.le_refl _) _
 have c0 : (w.alloc (.cells #[.int .u64 (l : Int), .int .u64 (m : Int), .bool t] 241)).cell? ⟨w.heap.size, 0, none⟩ = some (.int .u64 (l : Int)) := cell_of_row _ _ _ _ _ _ R0
 have c1 : (w.alloc (.cells #[.int .u64 (l : Int), .int .u64 (m : Int), .bool t] 241)).cell? ⟨w.heap.size, 1, none⟩ = some (.int .u64 (m : Int)) := cell_of_row _ _ _ _ _ _ R0
 have c2 : (w.alloc (.cells #[.int .u64 (l : Int), .int .u64 (m : Int), .bool t] 241)).cell? ⟨w.heap.size, 2, none⟩ = some (.bool t) := cell_of_row _ _ _ _ _ _ R0
 clear R0
 have s1 : ∀ V, GivesB V 217 #[.int .u64 (l : Int)] (.int .u64 (ctd l : Int)) := fun _ V _ => a_counted l hl V
 have s2 : ∀ V, GivesB V 217 #[.int .u64 (m : Int)] (.int .u64 (ctd m : Int)) := fun _ V _ => a_counted m hm V
 generalize ctd l = A at *
 generalize ctd m = Bm at *
 go_enter Tryz.func220, Tryz.ntmps220
 go_wp2_with (first | (refine wpList_box rfl 241 _ rfl _ rfl (bOct _) ?_) | fail)
 generalize hW : (w.alloc (.cells #[.int .u64 (l : Int), .int .u64 (m : Int), .bool t] 241)) = w1 at *
 replace hW := hide hW
 have k0 : ∀ p : Regrown, (grow (redrawn w1 p.d) p.os).cell? ⟨w.heap.size, 0, none⟩ = some (.int .u64 (l : Int)) := fun p => cell_regrown c0 p.d p.os
 have k1 : ∀ p : Regrown, (grow (redrawn w1 p.d) p.os).cell? ⟨w.heap.size, 1, none⟩ = some (.int .u64 (m : Int)) := fun p => cell_regrown c1 p.d p.os
 refine wp_region_quiet_below (by kernel_rfl) (by kernel_rfl) ?_
 go_big_quiet_step (fail)
 go_big_quiet_step (fail)
 go_big_quiet_step (exact (s1 w1).re)
 go_big_quiet_step (fail)
 go_big_quiet_step (fail)
 go_big_quiet_step (exact (s2 w1).re)
 go_big_quiet_step (fail)
 go_big_quiet_step (fail)
 refine wpQuiet_nil ?_
 rintro _ ⟨p, rfl⟩
 have hb2 := below_regrown w1 p.d p.os
 generalize grow (redrawn w1 p.d) p.os = w2 at *
 replace hw := Below.after hw hb2
 clear hb2 k0 k1 s1 s2
 go_wp2_with (fail)
 go_ret2
 exact ⟨rfl, hw⟩
theorem a_fltSize (cs : Array Value) : Gives 219 #[.agg cs] (.tuple #[.int .u64 8, .int .u64 8]) := by
 intro w
 go_enter Tryz.func219, Tryz.ntmps219
 go_wp2_with (first | (refine wpList_box rfl 238 _ rfl _ rfl (bFlt _) ?_) | fail)
 go_ret2
 exact ⟨rfl, (Below.refl _ _).alloc (Nat.le_refl _) _⟩
end Go.Proofs.YtjoohgkgkabbpaaGreatDoor
namespace Go.Proofs.YtjoohgkgkabbpaaGreatDoor
set_option maxRecDepth 100000
open Go Go.RowKit Go.Sort
def psz (k : Int) (l m : Nat) (s : Nat × Nat) : Nat × Nat :=
 if k = 1 then ((en l).length, (en m).length) else if k = 2 then (4, 4) else if k = 3 ∨ k = 7 then (8, 8) else if k = 4 then (1, 1) else if k = 5 ∨ k = 6 then (ctd l, ctd m)
 else if k = 8 then (ctd s.1, ctd s.2) else (ctd (l * ctd s.1), ctd (m * ctd s.2))
def phd (no : Int) : Nat := (en (8 * no.toNat)).length
def prL : List Slt → Nat → Nat → Nat × Nat
 | [], a, b => (a, b)
 | .mk no k l m sub :: ts, a, b => prL ts (a + (phd no + (psz k l m (cpd (prL sub 0 0).1, cpd (prL sub 0 0).2)).1)) (b + (phd no + (psz k l m (cpd (prL sub 0 0).1, cpd (prL sub 0 0).2)).2))
def prS (ts : List Slt) : Nat × Nat := (cpd (prL ts 0 0).1, cpd (prL ts 0 0).2)
theorem prL_cons (t : Slt) (ts : List Slt) (a b : Nat) : prL (t :: ts) a b = prL ts (a + (phd t.no + (psz t.kind t.least t.most (prS t.sub)).1)) (b + (phd t.no + (psz t.kind t.least t.most (prS t.sub)).2)) := by
 cases t
 rw [prL]
 rfl
theorem cpd_eq (n : Nat) : cpd n = min n 4194305 := by unfold cpd; split <;> omega
theorem cpd_ctd (n : Nat) : cpd (ctd n) = frm n := by rw [ctd, frm, Nat.add_comm]
theorem cpd_ctd_cpd (n : Nat) : cpd (ctd (cpd n)) = cpd (ctd n) := by
 by_cases h : 4194305 < n
 ·have e : cpd n = 4194305 := if_pos h
  rw [e, cpd_eq, cpd_eq, ctd, ctd]
  omega
 ·have e : cpd n = n := if_neg h
  rw [e]
theorem cpd_mul (x l : Nat) : cpd (cpd x * l) = cpd (l * x) := by
 rw [Nat.mul_comm]
 by_cases h : 4194305 < x
 ·have e : cpd x = 4194305 := if_pos h
  rw [e, cpd_eq, cpd_eq]
  cases l with
  | zero => simp
  | succ l =>
   have h1 : 4194305 ≤ (l + 1) * 4194305 := Nat.le_mul_of_pos_left _ (by omega)
   have h2 : 4194305 ≤ (l + 1) * x := Nat.le_trans (by omega) (Nat.le_mul_of_pos_left x (by omega : 0 < l + 1))
   omega
 ·have e : cpd x = x := if_neg h
  rw [e]
theorem cpd_idem (a : Nat) : cpd (cpd a) = cpd a := by simp only [cpd_eq]; omega
theorem cpd_c1 (n : Nat) : cpd (ctd n) = cpd (frm n) := by rw [← cpd_ctd, cpd_idem]
theorem cpd_c2 (l x : Nat) : cpd (ctd (l * ctd x)) = cpd (frm (cpd (frm x * l))) := by rw [← cpd_ctd, ← cpd_ctd, cpd_mul, cpd_ctd_cpd, cpd_idem]
theorem psz_cpd (k : Int) (l m : Nat) (s : Nat × Nat) : cpd (psz k l m s).1 = cpd (slsz k l m s).1 ∧ cpd (psz k l m s).2 = cpd (slsz k l m s).2 := by
 unfold psz slsz
 split
 ·exact ⟨rfl, rfl⟩
 split
 ·exact ⟨rfl, rfl⟩
 split
 ·exact ⟨rfl, rfl⟩
 split
 ·exact ⟨rfl, rfl⟩
 split
 ·exact ⟨cpd_c1 _, cpd_c1 _⟩
 split
 ·exact ⟨cpd_c1 _, cpd_c1 _⟩
 ·exact ⟨cpd_c2 _ _, cpd_c2 _ _⟩
theorem phd_hdl (no k : Int) : phd no = hdl no k := by
 obtain ⟨T, hT, h5⟩ := tyOf_nat k
 unfold phd hdl
 rw [hT, Int.toNat_natCast]
 generalize no.toNat = n
 have key : ∀ j, 0 < j → ((en (8 * n)).length ≤ j ↔ (en (8 * n + T)).length ≤ j) := by
  intro j hj
  rw [en_len _ j hj, en_len _ j hj]
  obtain ⟨i, rfl⟩ : ∃ i, j = i + 1 := ⟨j - 1, by omega⟩
  have e : 2 ^ (7 * (i + 1)) = 8 * (16 * 2 ^ (7 * i)) := by rw [Nat.mul_add, Nat.pow_add, ← Nat.mul_assoc, Nat.mul_comm]
  rw [e]
  omega
 have p1 : 0 < (en (8 * n)).length := en_pos _
 have p2 : 0 < (en (8 * n + T)).length := en_pos _
 have h1 := (key _ p2).2 (Nat.le_refl _)
 have h2 := (key _ p1).1 (Nat.le_refl _)
 omega
theorem prL_spL : ∀ (ts : List Slt) (a b a' b' : Nat), cpd a = a' → cpd b = b' → (cpd (prL ts a b).1, cpd (prL ts a b).2) = spL ts a' b'
 | [], a, b, a', b', h1, h2 => by rw [prL, spL, h1, h2]
 | .mk no k l m sub :: ts, a, b, a', b', h1, h2 => by
  have hs := prL_spL sub 0 0 0 0 rfl rfl
  rw [prL, spL, ← hs]
  have hp := psz_cpd k l m (cpd (prL sub 0 0).1, cpd (prL sub 0 0).2)
  refine prL_spL ts _ _ _ _ ?_ ?_
  ·rw [← h1, ← phd_hdl, Nat.add_assoc]
   generalize (psz k l m (cpd (prL sub 0 0).1, cpd (prL sub 0 0).2)).1 = x at *
   generalize (slsz k l m (cpd (prL sub 0 0).1, cpd (prL sub 0 0).2)).1 = y at *
   have := hp.1
   simp only [cpd_eq] at *
   omega
  ·rw [← h2, ← phd_hdl, Nat.add_assoc]
   generalize (psz k l m (cpd (prL sub 0 0).1, cpd (prL sub 0 0).2)).2 = x at *
   generalize (slsz k l m (cpd (prL sub 0 0).1, cpd (prL sub 0 0).2)).2 = y at *
   have := hp.2
   simp only [cpd_eq] at *
   omega
theorem prS_spL (ts : List Slt) : prS ts = spL ts 0 0 := prL_spL ts 0 0 0 0 rfl rfl
end Go.Proofs.YtjoohgkgkabbpaaGreatDoor

