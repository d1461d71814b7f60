import Derived.Test.YtdfpmgjholdknaaDoorProg
import Derived.WalkKit
import Derived.WalkSpells
import Derived.WalkLawsBesides
import Derived.Lib.QuietBelow
import Derived.Laws.BitsAllLaws
import Derived.BigQuiet
import Derived.WalkMore
import Derived.Deep.MidRow
import Derived.Test.YtdfpmgjholdknaaDoorKa
import Derived.Test.YtdfpmgjholdknaaDoorUi
namespace Go.Proofs.YtdfpmgjholdknaaDoor
set_option maxRecDepth 100000
open Go Go.RowKit Go.Sort
attribute [local go_sem] setCell_drewN alloc_drewN
/-- The shape of a slot, as the program keeps it; u: the list of its Sub, or a float. -/
def shp (t : Slt) (u : Value) : Value :=
  if t.kind = 1 then .iface 79 (.agg #[.int .i64 0, .int .u64 (t.least : Int), .int .u64 (t.most : Int)])
  else if t.kind = 2 then .iface 79 (.agg #[.int .i64 5, .int .u64 (t.least : Int), .int .u64 (t.most : Int)])
  else if t.kind = 3 then .iface 79 (.agg #[.int .i64 1, .int .u64 (t.least : Int), .int .u64 (t.most : Int)])
  else if t.kind = 4 then .iface 79 (.agg #[.int .i64 0, .int .u64 0, .int .u64 1])
  else if t.kind = 5 ∨ t.kind = 6 then .iface 92 (.agg #[.int .u64 (t.least : Int), .int .u64 (t.most : Int), .bool (t.kind == 6)])
  else if t.kind = 7 then .iface 89 (.agg #[u])
  else if t.kind = 8 then .iface 35 u
  else .iface 96 (.agg #[.int .u64 (t.least : Int), .int .u64 (t.most : Int), u])
/-- A schema outlined, in memory. -/
inductive Msg (W : World) : Value → List Slt → Prop
  | mk (ao : Option Addr) (cap : Nat) (ts : List Slt) (us : List Value) (hl : ts.length ≤ 16) (hc : ts.length ≤ cap)
      (h : ∀ i, i < ts.length → ∃ b off, ao = some ⟨b, off, none⟩ ∧ b < W.heap.size ∧ W.rangeAt b (off + i * 2) [.int .i64 (gs ts i).no, shp (gs ts i) (gvs us i)] ∧ Sok (gs ts i))
      (hs : ∀ i, i < ts.length → nst (gs ts i) → Msg W (gvs us i) (gs ts i).sub) : Msg W (.slice ao ts.length cap) ts
theorem infoP : (Tryd.prog.info? 63).map (·.size) = some 2 := by kernel_rfl
theorem zPl (W : World) : (Instr.alloc 63 true (.tuple #[])).run Tryd.prog W = .ok (.pointer (some ⟨W.heap.size, 0, none⟩)) (W.alloc (.cells #[.int .i64 0, .nilIface] 63)) := by kernel_rfl
theorem wpList_load_pl {ops : Array Oper} {rest : List Oper} {o : Oper} {a : Act} {w : World} {Q : Exit → Act → World → Prop} (hw : Region.wanted o (yielded ops a.tmps) = true) (x : Operand) (ho : o.op = .load 63 x)
    (g off : Nat) (hx : a.eval x = .pointer (some ⟨g, off, none⟩)) (c0 c1 : Value) (hr : w.rangeAt g off [c0, c1])
    (h : wpList Tryd.prog ops Q rest (a.put o.dst (.agg #[c0, c1])) w) : wpList Tryd.prog ops Q (o :: rest) a w :=
  BigFrame.wpList_want hw fun _ hK => wp_load_mid 63 x ho g off hx [c0, c1] _ hr Tryd.underlying63 rfl infoP (hK _ _ h)
theorem bLst (cs : Array Value) (W : World) : (Instr.box 96 (.agg cs)).run Tryd.prog W = .ok (.pointer (some ⟨W.heap.size, 0, none⟩)) (W.alloc (.cells cs 96)) := by kernel_rfl
theorem ctd_le (n : Nat) (h : n < 4611686018427387904) : ctd n ≤ n + 10 := by have := en_ten (n := n) (by omega); unfold ctd; omega
theorem a_msize (u : Value) (x y : Nat) (hx : x ≤ 4194305) (hy : y ≤ 4194305) (w : World) (hS : Calls Tryd.prog 11 #[u] w fun e w' => e = .returned (.tuple #[.int .u64 (x : Int), .int .u64 (y : Int)]) ∧ Below w.heap.size w w') : Calls Tryd.prog 107 #[u] w fun e w' => e = .returned (.tuple #[.int .u64 (ctd x : Int), .int .u64 (ctd y : Int)]) ∧ Below w.heap.size w w' := by
  have c1 := a_counted x (by omega)
  have c2 := a_counted y (by omega)
  rw [← ctd] at c1 c2
  generalize ctd x = A at *
  generalize ctd y = Bm at *
  go_enter Tryd.func107, Tryd.ntmps107
  go_wp2_with (fail)
  refine hS.mono ?_
  rintro e_ w1 ⟨rfl, hb⟩
  clear hS
  go_wp2_with (fail)
  refine (c1 w1).mono ?_
  rintro e_ w2 ⟨rfl, hb2⟩
  replace hb := Below.after hb hb2
  clear hb2 c1
  go_wp2_with (fail)
  refine (c2 w2).mono ?_
  rintro e_ w3 ⟨rfl, hb2⟩
  replace hb := Below.after hb hb2
  clear hb2 c2
  go_wp2_with (fail)
  go_ret2
  exact ⟨rfl, hb⟩
set_option maxRecDepth 100000 in
set_option maxHeartbeats 4000000 in
theorem a_lsize (u : Value) (l m x y : Nat) (hlm : l ≤ m) (hm : m ≤ 4096) (hx : x ≤ 4194305) (hy : y ≤ 4194305) (w : World) (hS : ∀ V, Below w.heap.size w V → Calls Tryd.prog 11 #[u] V fun e w' => e = .returned (.tuple #[.int .u64 (x : Int), .int .u64 (y : Int)]) ∧ Below V.heap.size V w') : Calls Tryd.prog 112 #[.agg #[.int .u64 (l : Int), .int .u64 (m : Int), u]] w fun e w' => e = .returned (.tuple #[.int .u64 (ctd (l * ctd x) : Int), .int .u64 (ctd (m * ctd y) : Int)]) ∧ Below w.heap.size w w' := by
  have R0 := hp1_0 w (.cells #[.int .u64 (l : Int), .int .u64 (m : Int), u] 96)
  have hw : Below w.heap.size w (w.alloc (.cells #[.int .u64 (l : Int), .int .u64 (m : Int), u] 96)) := (Below.refl _ _).alloc (Nat.le_refl _) _
  have c2 : (w.alloc (.cells #[.int .u64 (l : Int), .int .u64 (m : Int), u] 96)).cell? ⟨w.heap.size, 2, none⟩ = some u := cell_of_row _ _ _ _ _ _ R0
  have cM := a_msize u x y hx hy _ (hS _ hw)
  have e1 := ctd_le x (by omega)
  have e2 := ctd_le y (by omega)
  generalize ctd x = A at *
  generalize ctd y = Bm at *
  have p1 : l * A ≤ 4096 * 4194315 := Nat.mul_le_mul (by omega) (by omega)
  have p2 : m * Bm ≤ 4096 * 4194315 := Nat.mul_le_mul hm (by omega)
  have s1 : ∀ V, GivesB V 108 #[.int .u64 ((l : Int) * (A : Int))] (.int .u64 (ctd (l * A) : Int)) := fun _ V _ => by have := a_counted (l * A) (by omega) V; rwa [← ctd, Int.natCast_mul] at this
  have s2 : ∀ V, GivesB V 108 #[.int .u64 ((m : Int) * (Bm : Int))] (.int .u64 (ctd (m * Bm) : Int)) := fun _ V _ => by have := a_counted (m * Bm) (by omega) V; rwa [← ctd, Int.natCast_mul] at this
  have p3 : 0 ≤ (l : Int) * (A : Int) ∧ (l : Int) * (A : Int) ≤ 17179914240 := by rw [← Int.natCast_mul]; omega
  have p4 : 0 ≤ (m : Int) * (Bm : Int) ∧ (m : Int) * (Bm : Int) ≤ 17179914240 := by rw [← Int.natCast_mul]; omega
  generalize ctd (l * A) = A2 at *
  generalize ctd (m * Bm) = B2 at *
  clear hS p1 p2
  go_enter Tryd.func112, Tryd.ntmps112
  go_wp2_with (first | (refine wpList_box rfl 96 _ rfl _ rfl (bLst _) ?_) | fail)
  generalize w.alloc (.cells #[.int .u64 (l : Int), .int .u64 (m : Int), u] 96) = w0 at *
  refine cM.mono ?_
  rintro e_ w1 ⟨rfl, hb⟩
  have R1 := keep hb R0
  replace hw := Below.after hw hb
  clear cM hb R0 c2
  have c0 : w1.cell? ⟨w.heap.size, 0, none⟩ = some (.int .u64 (l : Int)) := by rw [cell_of_row _ _ 0 _ _ _ R1]; rfl
  have c1 : w1.cell? ⟨w.heap.size, 1, none⟩ = some (.int .u64 (m : Int)) := by rw [cell_of_row _ _ 1 _ _ _ R1]; rfl
  have k0 : ∀ p : Regrown, (grow (redrawn w1 p.d) p.os).cell? ⟨w.heap.size, 0, none⟩ = some (.int .u64 (l : Int)) := fun p => cell_regrown c0 p.d p.os
  have k1 : ∀ p : Regrown, (grow (redrawn w1 p.d) p.os).cell? ⟨w.heap.size, 1, none⟩ = some (.int .u64 (m : Int)) := fun p => cell_regrown c1 p.d p.os
  go_wp2_with (fail)
  refine wp_region_quiet_below (by kernel_rfl) (by kernel_rfl) ?_
  go_big_quiet_step (fail)
  go_big_quiet_step (fail)
  go_big_quiet_step (fail)
  go_big_quiet_step (fail)
  go_big_quiet_step (exact (s1 w1).re)
  go_big_quiet_step (fail)
  go_big_quiet_step (fail)
  go_big_quiet_step (fail)
  go_big_quiet_step (fail)
  go_big_quiet_step (exact (s2 w1).re)
  go_big_quiet_step (fail)
  go_big_quiet_step (fail)
  refine wpQuiet_nil ?_
  rintro _ ⟨p, rfl⟩
  have hb2 := below_regrown w1 p.d p.os
  generalize grow (redrawn w1 p.d) p.os = w2 at *
  replace hw := Below.after hw hb2
  clear hb2 k0 k1 s1 s2
  go_wp2_with (fail)
  go_ret2
  exact ⟨rfl, hw⟩
set_option maxRecDepth 100000 in
set_option maxHeartbeats 16000000 in
theorem a_mspan {W : World} {v : Value} {ts : List Slt} (h : Msg W v ts) : gd ts → ∀ (w : World), Below W.heap.size W w → Calls Tryd.prog 11 #[v] w fun e w' => e = .returned (.tuple #[.int .u64 ((prS ts).1 : Int), .int .u64 ((prS ts).2 : Int)]) ∧ Below w.heap.size w w' := by
  induction h with
  | mk ao cap ts us hl hc h hs ih =>
    intro hgd w hw
    go_enter Tryd.func11, Tryd.ntmps11
    go_wp2_with (fail)
    go_loopw [2, 3, 11] (fun s t i wr => ∃ (k a b : Nat), k ≤ ts.length ∧ i = .int .i64 k ∧ s = .int .u64 (a : Int) ∧ t = .int .u64 (b : Int) ∧ a ≤ k * 68719476736 ∧ b ≤ k * 68719476736 ∧ prL ts 0 0 = prL (ts.drop k) a b ∧ Below w.heap.size w wr) (fun _ _ i _ => ts.length - (intOf i).toNat)
    case atStart => exact ⟨0, 0, 0, by omega, rfl, rfl, rfl, by omega, by omega, rfl, Below.refl _ _⟩
    case round =>
      obtain ⟨k, a, b, hk, rfl, rfl, rfl, ha, hb', he, hb⟩ := hrel
      have hww := Below.after hw hb
      by_cases hlt : k < ts.length
      · have hd : decide ((k : Int) < (ts.length : Int)) = true := by simp; omega
        obtain ⟨⟨hn1, hn2⟩, hfit, hsubg⟩ := gd_at ts k hlt hgd
        rw [sdrop ts k hlt, prL_cons] at he
        obtain ⟨bb, off, hao, hbl, hra, hok⟩ := h k hlt
        have cI := ih k hlt
        subst hao
        have hrw := rangeS_keep2 hra hww hbl
        have hk1 : 0 ≤ (k : Int) ∧ (k : Int) < (ts.length : Int) := by omega
        have hcas := fit_cases hfit
        have hlb := hok.2.2.1
        have hmb := hok.2.2.2
        obtain ⟨N, hN⟩ : ∃ N : Nat, (gs ts k).no = (N : Int) := ⟨(gs ts k).no.toNat, by omega⟩
        have hph : phd (gs ts k).no = (en (8 * N)).length := by rw [phd, hN]; rfl
        have hel : (en (8 * N)).length ≤ 10 := en_ten (by omega)
        have cH := a_headOf N (by omega)
        have cS := a_sizeOf (8 * N) (by omega)
        rw [hph] at he
        rw [hN] at hrw
        generalize (en (8 * N)).length = H at *
        generalize gvs us k = u at *
        generalize hU : shp (gs ts k) u = U at *
        clear h hs ih hra hok hfit hph hN
        have r0 := hp1_0 wr (.cells #[.int .i64 0, .nilIface] 63)
        have hone : (#[.int .i64 (N : Int), U] : Array Value).all (·.oneCell') = true := by
          have h1 : U.oneCell' = true := by
            rw [← hU]
            unfold shp
            repeat' split
            all_goals rfl
          have h0 : (Value.int .i64 (N : Int)).oneCell' = true := rfl
          simp [h0, h1]
        have hba : Below wr.heap.size wr ((wr.alloc (.cells #[.int .i64 0, .nilIface] 63)).setRow wr.heap.size #[.int .i64 (N : Int), U]) := below_setRow ((Below.refl _ _).alloc (Nat.le_refl _) _) (Nat.le_refl _) _
        have r1 := setRow_heap _ wr.heap.size _ #[.int .i64 (N : Int), U] _ _ r0
        have hc0 : ((wr.alloc (.cells #[.int .i64 0, .nilIface] 63)).setRow wr.heap.size #[.int .i64 (N : Int), U]).cell? ⟨wr.heap.size, 0, none⟩ = some (.int .i64 (N : Int)) := by rw [cell_of_row _ _ 0 _ _ _ r1]; rfl
        replace hU := hide hU
        go_wp2_with (first | (refine wpList_load_pl rfl _ rfl bb (off + k * 2) rfl _ _ hrw ?_) | (refine wpList_alloc rfl 63 rfl #[.int .i64 0, .nilIface] zPl ?_) | (refine wpList_store_row rfl 63 _ _ rfl (wr.heap.size) #[.int .i64 (N : Int), U] rfl rfl 63 _ r0 infoP rfl hone ?_) | fail)
        replace hb := Below.after hb hba
        replace hww := Below.after hww hba
        clear r0 hone hba hc0
        generalize (wr.alloc (.cells #[.int .i64 0, .nilIface] 63)).setRow wr.heap.size #[.int .i64 (N : Int), U] = w1 at *
        generalize wr.heap.size = g at *
        refine (cH w1).mono ?_
        rintro e_ w2 ⟨rfl, hb2⟩
        replace r1 := keep hb2 r1
        replace hb := Below.after hb hb2
        replace hww := Below.after hww hb2
        clear cH hb2
        go_wp2_with (fail)
        refine (cS w2).mono ?_
        rintro e_ w3 ⟨rfl, hb2⟩
        replace r1 := keep hb2 r1
        replace hb := Below.after hb hb2
        replace hww := Below.after hww hb2
        clear cS hb2
        have hc1 : w3.cell? ⟨g, 1, none⟩ = some U := by rw [cell_of_row _ _ 1 _ _ _ r1]; rfl
        rcases hcas with ⟨hkd, hlm⟩ | ⟨hkd, hlm, hm3⟩ | ⟨hkd, hlm⟩ | hkd | ⟨hk56, hlm, hm4⟩ | hkd | hkd | ⟨hkd, hlm, hm4⟩
        · have hU1 := hU.out
          unfold shp at hU1
          rw [if_pos hkd] at hU1
          subst hU1
          have hz : psz (gs ts k).kind (gs ts k).least (gs ts k).most (prS (gs ts k).sub) = ((en (gs ts k).least).length, (en (gs ts k).most).length) := by unfold psz; rw [if_pos hkd]
          rw [hz] at he
          simp only at he
          have hA1 := en_ten hlb
          have hB1 := en_ten hmb
          have hmm : ∀ (x : Value) (V : World), (method 273 79 x "pawl/schema.size").run Tryd.prog V = .ok (109, x) V := fun x V => by kernel_rfl
          have cZ := a_numSize 0 (gs ts k).least (gs ts k).most hlb hmb w3
          rw [show nsz 0 (gs ts k).least (gs ts k).most = ((en (gs ts k).least).length, (en (gs ts k).most).length) from rfl] at cZ
          simp only at cZ
          generalize hA : (en (gs ts k).least).length = A at *
          generalize hBm : (en (gs ts k).most).length = Bm at *
          replace hA := hide hA
          replace hBm := hide hBm
          have he2 : Hid (prL ts 0 0 = prL (ts.drop (k + 1)) (a + (H + A)) (b + (H + Bm))) := hide he
          have ha16 : a ≤ 1099511627776 := by omega
          have hb16 : b ≤ 1099511627776 := by omega
          clear he cI hsubg
          go_wp2_with (fail)
          refine cZ.mono ?_
          rintro e_ w4 ⟨rfl, hb2⟩
          replace hb := Below.after hb hb2
          clear cZ hb2 hmm
          go_wp2_with (fail)
          refine ⟨⟨k + 1, a + (H + A), b + (H + Bm), by omega, by go_num, by first | rfl | (congr 1; done) | (congr 1; omega) | (simp only [Int.natCast_add]; rfl) | (simp [Int.natCast_add]; done), by first | rfl | (congr 1; done) | (congr 1; omega) | (simp only [Int.natCast_add]; rfl) | (simp [Int.natCast_add]; done), by omega, by omega, he2.out, hb⟩, ?_⟩
          simp [intOf]; omega
        · have hU1 := hU.out
          unfold shp at hU1
          rw [if_neg (by omega), if_pos (by omega)] at hU1
          subst hU1
          have hz : psz (gs ts k).kind (gs ts k).least (gs ts k).most (prS (gs ts k).sub) = (4, 4) := by unfold psz; rw [if_neg (by omega), if_pos (by omega)]
          rw [hz] at he
          simp only at he
          have hA1 : True := trivial
          have hmm : ∀ (x : Value) (V : World), (method 273 79 x "pawl/schema.size").run Tryd.prog V = .ok (109, x) V := fun x V => by kernel_rfl
          have cZ := a_numSize 5 (gs ts k).least (gs ts k).most hlb hmb w3
          rw [show nsz 5 (gs ts k).least (gs ts k).most = (4, 4) from rfl] at cZ
          simp only at cZ
          have he2 : Hid (prL ts 0 0 = prL (ts.drop (k + 1)) (a + (H + 4)) (b + (H + 4))) := hide he
          have ha16 : a ≤ 1099511627776 := by omega
          have hb16 : b ≤ 1099511627776 := by omega
          clear he cI hsubg
          go_wp2_with (fail)
          refine cZ.mono ?_
          rintro e_ w4 ⟨rfl, hb2⟩
          replace hb := Below.after hb hb2
          clear cZ hb2 hmm
          go_wp2_with (fail)
          refine ⟨⟨k + 1, a + (H + 4), b + (H + 4), by omega, by go_num, by first | rfl | (congr 1; done) | (congr 1; omega) | (simp only [Int.natCast_add]; rfl) | (simp [Int.natCast_add]; done), by first | rfl | (congr 1; done) | (congr 1; omega) | (simp only [Int.natCast_add]; rfl) | (simp [Int.natCast_add]; done), by omega, by omega, he2.out, hb⟩, ?_⟩
          simp [intOf]; omega
        · have hU1 := hU.out
          unfold shp at hU1
          rw [if_neg (by omega), if_neg (by omega), if_pos (by omega)] at hU1
          subst hU1
          have hz : psz (gs ts k).kind (gs ts k).least (gs ts k).most (prS (gs ts k).sub) = (8, 8) := by unfold psz; rw [if_neg (by omega), if_neg (by omega), if_pos (by omega)]
          rw [hz] at he
          simp only at he
          have hA1 : True := trivial
          have hmm : ∀ (x : Value) (V : World), (method 273 79 x "pawl/schema.size").run Tryd.prog V = .ok (109, x) V := fun x V => by kernel_rfl
          have cZ := a_numSize 1 (gs ts k).least (gs ts k).most hlb hmb w3
          rw [show nsz 1 (gs ts k).least (gs ts k).most = (8, 8) from rfl] at cZ
          simp only at cZ
          have he2 : Hid (prL ts 0 0 = prL (ts.drop (k + 1)) (a + (H + 8)) (b + (H + 8))) := hide he
          have ha16 : a ≤ 1099511627776 := by omega
          have hb16 : b ≤ 1099511627776 := by omega
          clear he cI hsubg
          go_wp2_with (fail)
          refine cZ.mono ?_
          rintro e_ w4 ⟨rfl, hb2⟩
          replace hb := Below.after hb hb2
          clear cZ hb2 hmm
          go_wp2_with (fail)
          refine ⟨⟨k + 1, a + (H + 8), b + (H + 8), by omega, by go_num, by first | rfl | (congr 1; done) | (congr 1; omega) | (simp only [Int.natCast_add]; rfl) | (simp [Int.natCast_add]; done), by first | rfl | (congr 1; done) | (congr 1; omega) | (simp only [Int.natCast_add]; rfl) | (simp [Int.natCast_add]; done), by omega, by omega, he2.out, hb⟩, ?_⟩
          simp [intOf]; omega
        · have hU1 := hU.out
          unfold shp at hU1
          rw [if_neg (by omega), if_neg (by omega), if_neg (by omega), if_pos (by omega)] at hU1
          subst hU1
          have hz : psz (gs ts k).kind (gs ts k).least (gs ts k).most (prS (gs ts k).sub) = (1, 1) := by unfold psz; rw [if_neg (by omega), if_neg (by omega), if_neg (by omega), if_pos (by omega)]
          rw [hz] at he
          simp only at he
          have hA1 : True := trivial
          have hmm : ∀ (x : Value) (V : World), (method 273 79 x "pawl/schema.size").run Tryd.prog V = .ok (109, x) V := fun x V => by kernel_rfl
          have cZ := a_numSize 0 0 1 (by omega) (by omega) w3
          rw [show nsz 0 0 1 = (1, 1) by decide +kernel] at cZ
          simp only at cZ
          rw [show ((0 : Nat) : Int) = 0 from rfl, show ((1 : Nat) : Int) = 1 from rfl] at cZ
          have he2 : Hid (prL ts 0 0 = prL (ts.drop (k + 1)) (a + (H + 1)) (b + (H + 1))) := hide he
          have ha16 : a ≤ 1099511627776 := by omega
          have hb16 : b ≤ 1099511627776 := by omega
          clear he cI hsubg
          go_wp2_with (fail)
          refine cZ.mono ?_
          rintro e_ w4 ⟨rfl, hb2⟩
          replace hb := Below.after hb hb2
          clear cZ hb2 hmm
          go_wp2_with (fail)
          refine ⟨⟨k + 1, a + (H + 1), b + (H + 1), by omega, by go_num, by first | rfl | (congr 1; done) | (congr 1; omega) | (simp only [Int.natCast_add]; rfl) | (simp [Int.natCast_add]; done), by first | rfl | (congr 1; done) | (congr 1; omega) | (simp only [Int.natCast_add]; rfl) | (simp [Int.natCast_add]; done), by omega, by omega, he2.out, hb⟩, ?_⟩
          simp [intOf]; omega
        · have hU1 := hU.out
          unfold shp at hU1
          rw [if_neg (by omega), if_neg (by omega), if_neg (by omega), if_neg (by omega), if_pos (by omega)] at hU1
          subst hU1
          have hz : psz (gs ts k).kind (gs ts k).least (gs ts k).most (prS (gs ts k).sub) = (ctd (gs ts k).least, ctd (gs ts k).most) := by unfold psz; rw [if_neg (by omega), if_neg (by omega), if_neg (by omega), if_neg (by omega), if_pos (by omega)]
          rw [hz] at he
          simp only at he
          have hA1 := ctd_le (gs ts k).least (by omega)
          have hB1 := ctd_le (gs ts k).most (by omega)
          have hmm : ∀ (x : Value) (V : World), (method 273 92 x "pawl/schema.size").run Tryd.prog V = .ok (111, x) V := fun x V => by kernel_rfl
          have cZ := a_octSize (gs ts k).least (gs ts k).most ((gs ts k).kind == 6) (by omega) (by omega) w3
          generalize hA : ctd (gs ts k).least = A at *
          generalize hBm : ctd (gs ts k).most = Bm at *
          replace hA := hide hA
          replace hBm := hide hBm
          have he2 : Hid (prL ts 0 0 = prL (ts.drop (k + 1)) (a + (H + A)) (b + (H + Bm))) := hide he
          have ha16 : a ≤ 1099511627776 := by omega
          have hb16 : b ≤ 1099511627776 := by omega
          clear he cI hsubg
          go_wp2_with (fail)
          refine cZ.mono ?_
          rintro e_ w4 ⟨rfl, hb2⟩
          replace hb := Below.after hb hb2
          clear cZ hb2 hmm
          go_wp2_with (fail)
          refine ⟨⟨k + 1, a + (H + A), b + (H + Bm), by omega, by go_num, by first | rfl | (congr 1; done) | (congr 1; omega) | (simp only [Int.natCast_add]; rfl) | (simp [Int.natCast_add]; done), by first | rfl | (congr 1; done) | (congr 1; omega) | (simp only [Int.natCast_add]; rfl) | (simp [Int.natCast_add]; done), by omega, by omega, he2.out, hb⟩, ?_⟩
          simp [intOf]; omega
        · have hU1 := hU.out
          unfold shp at hU1
          rw [if_neg (by omega), if_neg (by omega), if_neg (by omega), if_neg (by omega), if_neg (by omega), if_pos (by omega)] at hU1
          subst hU1
          have hz : psz (gs ts k).kind (gs ts k).least (gs ts k).most (prS (gs ts k).sub) = (8, 8) := by unfold psz; rw [if_neg (by omega), if_neg (by omega), if_pos (by omega)]
          rw [hz] at he
          simp only at he
          have hA1 : True := trivial
          have hmm : ∀ (x : Value) (V : World), (method 273 89 x "pawl/schema.size").run Tryd.prog V = .ok (110, x) V := fun x V => by kernel_rfl
          have cZ := a_fltSize #[u] w3
          have he2 : Hid (prL ts 0 0 = prL (ts.drop (k + 1)) (a + (H + 8)) (b + (H + 8))) := hide he
          have ha16 : a ≤ 1099511627776 := by omega
          have hb16 : b ≤ 1099511627776 := by omega
          clear he cI hsubg
          go_wp2_with (fail)
          refine cZ.mono ?_
          rintro e_ w4 ⟨rfl, hb2⟩
          replace hb := Below.after hb hb2
          clear cZ hb2 hmm
          go_wp2_with (fail)
          refine ⟨⟨k + 1, a + (H + 8), b + (H + 8), by omega, by go_num, by first | rfl | (congr 1; done) | (congr 1; omega) | (simp only [Int.natCast_add]; rfl) | (simp [Int.natCast_add]; done), by first | rfl | (congr 1; done) | (congr 1; omega) | (simp only [Int.natCast_add]; rfl) | (simp [Int.natCast_add]; done), by omega, by omega, he2.out, hb⟩, ?_⟩
          simp [intOf]; omega
        · have hU1 := hU.out
          unfold shp at hU1
          rw [if_neg (by omega), if_neg (by omega), if_neg (by omega), if_neg (by omega), if_neg (by omega), if_neg (by omega), if_pos (by omega)] at hU1
          subst hU1
          have hz : psz (gs ts k).kind (gs ts k).least (gs ts k).most (prS (gs ts k).sub) = (ctd (prS (gs ts k).sub).1, ctd (prS (gs ts k).sub).2) := by unfold psz; rw [if_neg (by omega), if_neg (by omega), if_neg (by omega), if_neg (by omega), if_neg (by omega), if_pos (by omega)]
          rw [hz] at he
          simp only at he
          have hp := prS_spL (gs ts k).sub
          have hq := spL_le (gs ts k).sub 0 0 (by omega) (by omega)
          rw [← hp] at hq
          obtain ⟨hq1, hq2⟩ := hq
          clear hp
          have hA1 := ctd_le (prS (gs ts k).sub).1 (by omega)
          have hB1 := ctd_le (prS (gs ts k).sub).2 (by omega)
          have hmm : ∀ (x : Value) (V : World), (method 273 35 x "pawl/schema.size").run Tryd.prog V = .ok (107, x) V := fun x V => by kernel_rfl
          have cZ := a_msize u (prS (gs ts k).sub).1 (prS (gs ts k).sub).2 hq1 hq2 w3 (cI (.inl hkd) (hsubg (.inl hkd)) w3 hww)
          generalize hA : ctd (prS (gs ts k).sub).1 = A at *
          generalize hBm : ctd (prS (gs ts k).sub).2 = Bm at *
          replace hA := hide hA
          replace hBm := hide hBm
          have he2 : Hid (prL ts 0 0 = prL (ts.drop (k + 1)) (a + (H + A)) (b + (H + Bm))) := hide he
          have ha16 : a ≤ 1099511627776 := by omega
          have hb16 : b ≤ 1099511627776 := by omega
          clear he cI hsubg
          go_wp2_with (fail)
          refine cZ.mono ?_
          rintro e_ w4 ⟨rfl, hb2⟩
          replace hb := Below.after hb hb2
          clear cZ hb2 hmm
          go_wp2_with (fail)
          refine ⟨⟨k + 1, a + (H + A), b + (H + Bm), by omega, by go_num, by first | rfl | (congr 1; done) | (congr 1; omega) | (simp only [Int.natCast_add]; rfl) | (simp [Int.natCast_add]; done), by first | rfl | (congr 1; done) | (congr 1; omega) | (simp only [Int.natCast_add]; rfl) | (simp [Int.natCast_add]; done), by omega, by omega, he2.out, hb⟩, ?_⟩
          simp [intOf]; omega
        · have hU1 := hU.out
          unfold shp at hU1
          rw [if_neg (by omega), if_neg (by omega), if_neg (by omega), if_neg (by omega), if_neg (by omega), if_neg (by omega), if_neg (by omega)] at hU1
          subst hU1
          have hz : psz (gs ts k).kind (gs ts k).least (gs ts k).most (prS (gs ts k).sub) = (ctd ((gs ts k).least * ctd (prS (gs ts k).sub).1), ctd ((gs ts k).most * ctd (prS (gs ts k).sub).2)) := by unfold psz; rw [if_neg (by omega), if_neg (by omega), if_neg (by omega), if_neg (by omega), if_neg (by omega), if_neg (by omega)]
          rw [hz] at he
          simp only at he
          have hp := prS_spL (gs ts k).sub
          have hq := spL_le (gs ts k).sub 0 0 (by omega) (by omega)
          rw [← hp] at hq
          obtain ⟨hq1, hq2⟩ := hq
          clear hp
          have hA1 := ctd_le (prS (gs ts k).sub).1 (by omega)
          have hB1 := ctd_le (prS (gs ts k).sub).2 (by omega)
          have hA2 := Nat.mul_le_mul (show (gs ts k).least ≤ 4096 by omega) (show ctd (prS (gs ts k).sub).1 ≤ 4194315 by omega)
          have hB2 := Nat.mul_le_mul hm4 (show ctd (prS (gs ts k).sub).2 ≤ 4194315 by omega)
          have hA3 := ctd_le ((gs ts k).least * ctd (prS (gs ts k).sub).1) (by omega)
          have hB3 := ctd_le ((gs ts k).most * ctd (prS (gs ts k).sub).2) (by omega)
          have hmm : ∀ (x : Value) (V : World), (method 273 96 x "pawl/schema.size").run Tryd.prog V = .ok (112, x) V := fun x V => by kernel_rfl
          have cZ := a_lsize u (gs ts k).least (gs ts k).most (prS (gs ts k).sub).1 (prS (gs ts k).sub).2 hlm hm4 hq1 hq2 w3 (fun V hV => cI (.inr hkd) (hsubg (.inr hkd)) V (Below.after hww hV))
          generalize hA : ctd ((gs ts k).least * ctd (prS (gs ts k).sub).1) = A at *
          generalize hBm : ctd ((gs ts k).most * ctd (prS (gs ts k).sub).2) = Bm at *
          replace hA := hide hA
          replace hBm := hide hBm
          have he2 : Hid (prL ts 0 0 = prL (ts.drop (k + 1)) (a + (H + A)) (b + (H + Bm))) := hide he
          have ha16 : a ≤ 1099511627776 := by omega
          have hb16 : b ≤ 1099511627776 := by omega
          clear he cI hsubg
          go_wp2_with (fail)
          refine cZ.mono ?_
          rintro e_ w4 ⟨rfl, hb2⟩
          replace hb := Below.after hb hb2
          clear cZ hb2 hmm
          go_wp2_with (fail)
          refine ⟨⟨k + 1, a + (H + A), b + (H + Bm), by omega, by go_num, by first | rfl | (congr 1; done) | (congr 1; omega) | (simp only [Int.natCast_add]; rfl) | (simp [Int.natCast_add]; done), by first | rfl | (congr 1; done) | (congr 1; omega) | (simp only [Int.natCast_add]; rfl) | (simp [Int.natCast_add]; done), by omega, by omega, he2.out, hb⟩, ?_⟩
          simp [intOf]; omega
      · have hd : decide ((k : Int) < (ts.length : Int)) = false := by simp; omega
        rw [List.drop_eq_nil_of_le (by omega), prL] at he
        have hp : Hid (prS ts = (cpd a, cpd b)) := hide (by unfold prS; rw [he])
        have m1 : min (a : Int) 4194305 = (cpd a : Int) := by rw [cpd_eq]; omega
        have m2 : min (b : Int) 4194305 = (cpd b : Int) := by rw [cpd_eq]; omega
        clear h hs ih he
        go_wp2_with (fail)
        all_goals
          go_ret2
          refine ⟨?_, hb⟩
          rw [hp.out]
          have q1 := m1
          have q2 := m2
          first
            | (rw [Int.min_eq_right (by omega)] at q1; rw [Int.min_eq_right (by omega)] at q2; rw [← q1, ← q2]; rfl)
            | (rw [Int.min_eq_right (by omega)] at q1; rw [Int.min_eq_left (by omega)] at q2; rw [← q1, ← q2]; rfl)
            | (rw [Int.min_eq_left (by omega)] at q1; rw [Int.min_eq_right (by omega)] at q2; rw [← q1, ← q2]; rfl)
            | (rw [Int.min_eq_left (by omega)] at q1; rw [Int.min_eq_left (by omega)] at q2; rw [← q1, ← q2]; rfl)
end Go.Proofs.YtdfpmgjholdknaaDoor
