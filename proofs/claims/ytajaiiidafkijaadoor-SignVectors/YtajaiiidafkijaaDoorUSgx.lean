import Derived.Test.YtajaiiidafkijaaDoorProg
import Derived.WalkKit
import Derived.WalkSpells
import Derived.WalkLawsBesides
import Derived.Lib.QuietBelow
import Derived.BigQuiet
import Derived.Deep.RegionLaw
import Derived.Deep.RegionHeld3
import Derived.OwnWalk
import Derived.Test.YtajaiiidafkijaaDoorUWdv
import Derived.Deep.Cut
import Derived.Deep.CutRange
import Derived.Laws.BytesArg
import Derived.Test.YtajaiiidafkijaaDoorUSgg
namespace Go.Proofs.YtajaiiidafkijaaDoor.Wi
set_option maxRecDepth 100000
open Go Go.RowKit Go.Sort
attribute [local go_sem] setCell_drewN alloc_drewN
theorem wrapI (x : Int) (h0 : 0 ≤ x) (h1 : x < 9223372036854775808) : IntKind.i64.wrap x = x := by
 have e : x % 2 ^ IntKind.i64.bits = x := Int.emod_eq_of_lt h0 (by show x < 2 ^ 64; omega)
 unfold IntKind.wrap
 simp only [e]
 rw [if_neg]
 simp only [IntKind.signed, IntKind.bits, Bool.true_and]
 intro h
 have h2 : x ≥ 2 ^ 63 := of_decide_eq_true h
 omega
theorem wrap8 (x : Int) (h0 : 0 ≤ x) (h1 : x < 256) : IntKind.u8.wrap x = x := by
 simp [IntKind.wrap, IntKind.bits, IntKind.signed]
 exact Int.emod_eq_of_lt h0 h1
theorem step_call {P : Program} {ops : Array Oper} {o : Oper} {a : Act} {w : World} {K : Act → World → Prop} {Q : Exit → Act → World → Prop} {E : Prop} (f : FuncId) (args : Array Value) {R : Value → World → Prop}
 (hg : o.guard = none) (hx : (execOp a.eval o).run P w = .ok (.enter f args) w) (c : Calls P f args w fun e w' => ∃ v, e = .returned v ∧ R v w') (h : ∀ v w', R v w' → K (a.put o.dst v) w') :
 if Region.wanted o (yielded ops a.tmps) = true then Oper.wp P o a w K Q else E := by
 have hw : Region.wanted o (yielded ops a.tmps) = true := by simp [Region.wanted, hg]
 rw [if_pos hw]
 unfold Oper.wp
 rw [hx, Oper.upon_enter]
 exact c.mono fun e w' ⟨v, he, hb⟩ => by subst he; exact h v w' hb
theorem ex1 {f : FuncId} {args : Array Value} {w : World} {v : Value} {B : World → Prop} (h : Calls Tryd.prog f args w fun e w' => e = .returned v ∧ B w') : Calls Tryd.prog f args w fun e w' => ∃ u, e = .returned u ∧ (u = v ∧ B w') := h.mono fun _ _ ⟨h1, h2⟩ => ⟨v, h1, rfl, h2⟩
theorem step_append_any {P : Program} (w : World) {ops : Array Oper} {o : Oper} {a : Act} {K : Act → World → Prop} {Q : Exit → Act → World → Prop} {E : Prop} (hgd : o.guard = none) (s x : Operand) (t : TypeId)
 (ho : o.op = .call { callee := .builtin .append, args := #[s, x], argTypes := #[t, t] })
 (base : Nat) (e : TypeId) (i : TypeInfo) (z : Value) (ht : P.underlying t = some (.slice e)) (hi : P.info? e = some i) (hz : i.zero = some z)
 (hsize : i.size = 1) (hby : i.bytes = 1) (hzs : z.cells.size = 1)
 (v : Value) (n : Nat) (xs : List Value) (hs : a.eval s = v) (hown : w.ownsRow base e 1 v n xs)
 (ao : Option Addr) (m c : Nat) (news : List Value) (hx : a.eval x = .slice ao m c) (hl : news.length = m * 1) (hnone : ao = none → m = 0 ∧ c = 0) (hnews : ∀ ad, ao = some ad → ∀ j u, news[j]? = some u → w.cell? (ad.add j) = some u) (h1 : ∀ u ∈ news, u.oneCell' = true)
 (h63 : n + m ≤ maxLen) (hbytes : (n + m) * 1 ≤ 140737488355328) (hbase : base ≤ w.heap.size)
 (h : ∀ v' w', w'.ownsRow base e 1 v' (n + m) (xs ++ news) → w.grownBy w' v.ownBlock → K (a.put o.dst v') w') : if Region.wanted o (yielded ops a.tmps) = true then Oper.wp P o a w K Q else E := by
 have hw : Region.wanted o (yielded ops a.tmps) = true := by simp [Region.wanted, hgd]
 rw [if_pos hw]
 cases ao with
 | some ad => exact wp_append_own w s x t ho base e i z 1 1 ht hi hz hsize hby hzs (by decide) v n xs hs hown ad m c news hx hl (hnews ad rfl) h1 h63 hbytes hbase (fun v' w' h2 h3 _ => h v' w' h2 h3)
 | none =>
  obtain ⟨rfl, rfl⟩ := hnone rfl
  have hn0 : news = [] := List.eq_nil_of_length_eq_zero (by simpa using hl)
  subst hn0
  have hrun := run_append_owned_none (P := P) w base t o.type e i 1 ht hi _ n xs hown
  unfold Oper.wp
  simp [execOp, ho, resolve, invoke, builtin, hs, hx, hrun, Result.andThen]
  have h_ := h v w (by simpa using hown) (World.grownBy.refl _ _)
  exact h_
def hx (c : Int) : Int := if 97 ≤ c then c - 87 else c - 48
def isHx (c : Int) : Prop := (48 ≤ c ∧ c ≤ 57) ∨ (97 ≤ c ∧ c ≤ 102)
instance (c : Int) : Decidable (isHx c) := inferInstanceAs (Decidable (_ ∨ _))
def sb (s : ByteArray) (j : Nat) : Int := (s.data.getD j 0).toNat
def vb (s : ByteArray) (j : Nat) : Int := hx (sb s (2 * j)) * 16 + hx (sb s (2 * j + 1))
def hxl (s : ByteArray) (n : Nat) : List Int := (List.range n).map (vb s)
theorem hxl_succ (s : ByteArray) (n : Nat) : hxl s (n + 1) = hxl s n ++ [vb s n] := by simp [hxl, List.range_succ]
theorem hx_bd {c : Int} (h : isHx c) : 0 ≤ hx c ∧ hx c < 16 := by
 unfold isHx at h
 unfold hx
 split <;> omega
theorem hxl_bd (s : ByteArray) (n : Nat) (hh : ∀ j, j < 2 * n → isHx (sb s j)) : ∀ z ∈ hxl s n, 0 ≤ z ∧ z < 256 := by
 intro z hz
 simp only [hxl, List.mem_map, List.mem_range] at hz
 obtain ⟨j, hj, rfl⟩ := hz
 have h1 := hx_bd (hh (2 * j) (by omega))
 have h2 := hx_bd (hh (2 * j + 1) (by omega))
 unfold vb
 omega
set_option maxHeartbeats 4000000 in
theorem digit_any {c : Int} (h : isHx c) : Gives 58 #[.int .u8 c] (.int .u8 (hx c)) := by
 intro w
 unfold isHx at h
 by_cases h9 : 97 ≤ c
 ·have hd : decide ((97 : Int) ≤ c) = true := decide_eq_true h9
  have e : hx c = c - 97 + 10 := by unfold hx; rw [if_pos h9]; omega
  rw [e]
  go_enter Tryd.func58, Tryd.ntmps58
  go_wp2
  go_ret
  exact ⟨rfl, Below.refl _ _⟩
 ·have hd : decide ((97 : Int) ≤ c) = false := decide_eq_false h9
  have e : hx c = c - 48 := by unfold hx; rw [if_neg h9]
  rw [e]
  go_enter Tryd.func58, Tryd.ntmps58
  go_wp2
  go_ret
  exact ⟨rfl, Below.refl _ _⟩
theorem index_sb (s : ByteArray) (i : Int) (j : Nat) (hi : i = (j : Int)) (hj : j < s.size) (W : World) : (Instr.index 9 (.string s) (.int .i64 i)).run Tryd.prog W = .ok (.int .u8 (sb s j)) W := by
 subst hi
 rw [run_index_string W 9 s .i64 j Tryd.underlying9, dif_pos ⟨by omega, by omega⟩]
 have e : sb s j = (s[((j : Int)).toNat]'(by simp; omega)).toNat := by
  unfold sb
  have h2 : j < s.size := by omega
  simp [Array.getD, h2]
  rfl
 rw [e]
set_option maxRecDepth 100000 in
set_option maxHeartbeats 4000000 in
theorem l_hex (s : ByteArray) (n : Nat) (hs : s.size = 2 * n) (hn : n ≤ 1000) (hh : ∀ j, j < 2 * n → isHx (sb s j)) (w : World) : Calls Tryd.prog 13 #[.string s] w fun e w' => ∃ v, e = .returned v ∧ w'.ownsRow w.heap.size 5 1 v n ((hxl s n).map (Value.int .u8)) ∧ Below w.heap.size w w' := by
 obtain ⟨i0, hi, hz0, hz1, hz2⟩ := info8
 have hown0 : w.ownsRow w.heap.size 5 1 (.slice none 0 0) 0 ((hxl s 0).map (Value.int .u8)) := ⟨rfl, .inl ⟨rfl, rfl⟩⟩
 go_enter Tryd.func13, Tryd.ntmps13
 go_wp2_with (fail)
 go_loopw [3, 4] (fun x i wr => ∃ k : Nat, k ≤ n ∧ i = .int .i64 ((2 * k : Nat) : Int) ∧ wr.ownsRow w.heap.size 5 1 x k ((hxl s k).map (Value.int .u8)) ∧ Below w.heap.size w wr) (fun _ i _ => 2 * n - (intOf i).toNat)
 case atStart => exact ⟨0, by omega, rfl, hown0, Below.refl _ _⟩
 case round =>
  clear hown0
  obtain ⟨k, hk, rfl, hown, hw⟩ := hrel
  obtain ⟨aox, capx, rfl⟩ := slen_own hown
  by_cases hlt : k < n
  ·have hd : decide (((2 * k : Nat) : Int) + 1 < (s.size : Int)) = true := by rw [hs]; simp; omega
   have x0 := hh (2 * k) (by omega)
   have x1 := hh (2 * k + 1) (by omega)
   have hi0 := index_sb s ((2 * k : Nat) : Int) (2 * k) rfl (by omega)
   have hi1 := index_sb s (((2 * k : Nat) : Int) + 1) (2 * k + 1) (by omega) (by omega)
   have hvb : hx (sb s (2 * k)) * 16 + hx (sb s (2 * k + 1)) = vb s k := rfl
   have cd1 := digit_any x0
   have cd2 := digit_any x1
   have b0 := hx_bd x0
   have b1 := hx_bd x1
   have hnx := hxl_succ s k
   replace hnx := hide hnx
   replace hvb := hide hvb
   clear x0 x1 hh
   generalize hx (sb s (2 * k)) = d1 at *
   generalize hx (sb s (2 * k + 1)) = d2 at *
   generalize sb s (2 * k) = c1 at *
   generalize sb s (2 * k + 1) = c2 at *
   generalize eI : ((2 * k : Nat) : Int) = I at *
   have hwr : I + 1 < 9223372036854775807 := by omega
   have m1 : IntKind.u8.wrap (d1 * 16) = d1 * 16 := wrap8 _ (by omega) (by omega)
   have m2 : IntKind.u8.wrap (d1 * 16 + d2) = d1 * 16 + d2 := wrap8 _ (by omega) (by omega)
   have hwI : IntKind.i64.wrap (I + 1) = I + 1 := wrapI _ (by omega) (by omega)
   go_wp2
   refine wp_region_noPanic ?_
   go_region_law
    ((first
     | (refine step_call 58 #[.int .u8 c1] (by rfl) (by kernel_rfl) (ex1 (cd1.at wr.drew)) ?_; rintro v1 w1 ⟨rfl, hb1⟩)
     | (refine step_call 58 #[.int .u8 c2] (by rfl) (by kernel_rfl) (ex1 (cd2.at w1)) ?_; rintro v2 w2 ⟨rfl, hb2⟩; have hb12 : Below wr.heap.size wr w2 := Below.after (Below.after (below_drN (Below.refl _ _) 1) hb1) hb2; have hs12 := hb12.size; have hown2 := (own_keep hown hb12).alloc (.cells #[.int .u8 (d1 * 16 + d2)] 5); replace hw := Below.after hw hb12; have hnew := new_cell w2 (d1 * 16 + d2); clear hb1 hb2)
     | (refine step_append_any _ (by rfl) _ _ _ (by rfl) w.heap.size 5 i0 (.int .u8 0) Tryd.underlying22 hi hz0 hz1 hz2 rfl _ k ((hxl s k).map (Value.int .u8)) (by rfl) hown2 (some ⟨w2.heap.size, 0, none⟩) 1 1 [.int .u8 (d1 * 16 + d2)] (by rfl) (by simp) (fun h => by cases h) (fun ad h => by cases h; exact hnew) (by simp [Value.oneCell']) (by unfold maxLen; omega) (by omega) (by rw [size_alloc1]; have := hw.size; omega) ?_; intro v3 w3 hown3 hgrow; have hw3 : Below w.heap.size w w3 := (hw.alloc hw.size _).grown hgrow (by rw [size_alloc1]; have := hw.size; omega) (fun q h => (hown2.lt q h).1))))
   all_goals
    refine NoPanic.normal ?_
    obtain ⟨ao3, cap3, rfl⟩ := slen_own hown3
    rw [hvb.out, show [Value.int .u8 (vb s k)] = [vb s k].map (Value.int .u8) from rfl, ← List.map_append, ← hnx.out] at hown3
    clear hgrow hown2 hw hnew hown
    go_wp2
    refine ⟨⟨k + 1, by omega, by simp; omega, hown3, hw3⟩, ?_⟩
    simp [intOf]; omega
  ·obtain rfl : k = n := by omega
   have hd : decide (((2 * k : Nat) : Int) + 1 < (s.size : Int)) = false := by rw [hs]; simp; omega
   go_wp2
   go_ret
   exact ⟨_, rfl, hown, hw⟩
end Go.Proofs.YtajaiiidafkijaaDoor.Wi
namespace Go.Proofs.YtajaiiidafkijaaDoor
set_option maxRecDepth 100000
open Go Go.RowKit Go.Sort
attribute [local go_sem] setCell_drewN alloc_drewN
theorem conv_bys {W : World} {v : Value} {bs : List Int} (h : Bys W v bs) : (convert 22 9 v).run Tryd.prog W = .ok (.string (strOfNums bs)) W := by
 obtain ⟨ao, cap, rfl, _, hc, _⟩ := h
 cases ao with
 | none =>
  have : bs = [] := by
   cases bs with
   | nil => rfl
   | cons x xs => obtain ⟨b, off, e, _⟩ := hc 0 (by simp); cases e
  subst this
  exact run_convert_bytes_nil W 22 5 Tryd.underlying22 Tryd.underlying5 _ _ 9 Tryd.underlying9
 | some ad =>
  rcases Nat.eq_zero_or_pos bs.length with e0 | e0
  ·have : bs = [] := List.eq_nil_of_length_eq_zero e0
   subst this
   obtain ⟨b, off, sp⟩ := ad
   rw [run_convert_bytes_string W 22 9 5 _ _ _ Tryd.underlying22 Tryd.underlying5 Tryd.underlying9]
   have := run_bytesToString (P := Tryd.prog) W ⟨b, off, sp⟩ 0 cap [] (by rfl)
   exact this
  ·obtain ⟨b, off, e, _⟩ := hc 0 e0
   cases e
   exact run_convert_bytes_arg W 22 5 Tryd.underlying22 Tryd.underlying5 b off bs.length cap bs rfl (fun i hi => by
    obtain ⟨b', off', e, _, h⟩ := hc i hi
    cases e
    exact h) 9 Tryd.underlying9
theorem nilK (W : World) : BysK W (.slice none 0 0) [] := ⟨⟨none, 0, rfl, by decide, fun j hj => by simp at hj, by simp⟩, fun a l c h => by cases h; exact Nat.le_refl _, by decide⟩
theorem bysK_own {W : World} {b n : Nat} {v : Value} {l : List Int} (h : W.ownsRow b 5 1 v n (l.map (Value.int .u8))) (hl : l.length ≤ 4611686018427380000) (hz : ∀ z ∈ l, 0 ≤ z ∧ z < 256) : BysK W v l := by
 refine ⟨Wi.Bys.of_own h (by omega) hz, ?_, hl⟩
 rcases h.2 with ⟨rfl, _⟩ | ⟨g, cap, cur, rfl, _, _, hc, _⟩
 ·intro a l c e; cases e; exact Nat.le_refl _
 ·intro a l c e; cases e; exact hc
theorem bysK_row1 {W : World} {g : Nat} {t : TypeId} (r : W.heap[g]? = some (.cells #[.int .u8 0] t (0, 0))) : BysK W (.slice (some ⟨g, 0, none⟩) 1 1) [0] := by
 refine ⟨⟨some ⟨g, 0, none⟩, 1, rfl, (by show 1 ≤ _; decide), fun j hj => ⟨g, 0, rfl, lt_of_row r, ?_⟩, by decide⟩, fun a l c h => by cases h; exact Nat.le_refl _, (by show 1 ≤ _; decide)⟩
 have e : j = 0 := by simpa using hj
 subst e
 exact cell_of_row W g 0 _ _ _ r
theorem bysK_sg {W : World} {g : Nat} {R S : Int} {t : TypeId} (r : W.heap[g]? = some (.cells (sg R S) t (0, 0))) : BysK W (.slice (some ⟨g, 0, none⟩) 64 64) (b32 R ++ b32 S) := by
 have hz : ∀ z ∈ b32 R ++ b32 S, 0 ≤ z ∧ z < 256 := fun z h => (List.mem_append.1 h).elim (b32_bd R z) (b32_bd S z)
 exact ⟨Wi.Bys.of_row r (by show 64 ≤ _; decide) hz 64, fun a l c h => by cases h; exact Nat.le_refl _, (by show 64 ≤ _; decide)⟩
theorem hexK (s : ByteArray) (n : Nat) (O : List Int) (hs : s.size = 2 * n) (hn : n ≤ 1000) (hh : ∀ j, j < 2 * n → Wi.isHx (Wi.sb s j)) (e : Wi.hxl s n = O) (hl : O.length ≤ 1000) (w : World) : Calls Tryd.prog 13 #[.string s] w fun e w' => ∃ v, e = .returned v ∧ BysK w' v O ∧ Below w.heap.size w w' := by
 refine (Wi.l_hex s n hs hn hh w).mono ?_
 rintro e' w' ⟨v, rfl, ho, hb⟩
 have hz := Wi.hxl_bd s n hh
 rw [e] at ho hz
 exact ⟨v, rfl, bysK_own ho (by omega) hz, hb⟩
theorem hex1 (O : List Int) (hO : O = vsd) (w : World) : Calls Tryd.prog 13 #[.string (⟨#[57, 100, 54, 49, 98, 49, 57, 100, 101, 102, 102, 100, 53, 97, 54, 48, 98, 97, 56, 52, 52, 97, 102, 52, 57, 50, 101, 99, 50, 99, 99, 52, 52, 52, 52, 57, 99, 53, 54, 57, 55, 98, 51, 50, 54, 57, 49, 57, 55, 48, 51, 98, 97, 99, 48, 51, 49, 99, 97, 101, 55, 102, 54, 48]⟩ : ByteArray)] w fun e w' => ∃ v, e = .returned v ∧ BysK w' v O ∧ Below w.heap.size w w' := hexK _ 32 O (by decide +kernel) (by decide) (by decide +kernel) (by rw [hO]; decide +kernel) (by rw [hO]; decide) w
theorem hex2 (O : List Int) (hO : O = b32 11903303657706407974989296177215005343713679411332034699907763981919547054807) (w : World) : Calls Tryd.prog 13 #[.string (⟨#[100, 55, 53, 97, 57, 56, 48, 49, 56, 50, 98, 49, 48, 97, 98, 55, 100, 53, 52, 98, 102, 101, 100, 51, 99, 57, 54, 52, 48, 55, 51, 97, 48, 101, 101, 49, 55, 50, 102, 51, 100, 97, 97, 54, 50, 51, 50, 53, 97, 102, 48, 50, 49, 97, 54, 56, 102, 55, 48, 55, 53, 49, 49, 97]⟩ : ByteArray)] w fun e w' => ∃ v, e = .returned v ∧ BysK w' v O ∧ Below w.heap.size w w' := hexK _ 32 O (by decide +kernel) (by decide) (by decide +kernel) (by rw [hO]; decide +kernel) (by rw [hO]; decide +kernel) w
theorem hex3 (O : List Int) (hO : O = b32 38448863731492799660668882834560725606410712239157980760146247592118262650597 ++ b32 5004556735901913393272427758925840403246877222315506387332009764265656498271) (w : World) : Calls Tryd.prog 13 #[.string (⟨([101, 53, 53, 54, 52, 51, 48, 48, 99, 51, 54, 48, 97, 99, 55, 50, 57, 48, 56, 54, 101, 50, 99, 99, 56, 48, 54, 101, 56, 50, 56, 97, 56, 52, 56, 55, 55, 102, 49, 101, 98, 56, 101, 53, 100, 57, 55, 52, 100, 56, 55, 51, 101, 48, 54, 53, 50, 50, 52, 57, 48, 49, 53, 53].append [53, 102, 98, 56, 56, 50, 49, 53, 57, 48, 97, 51, 51, 98, 97, 99, 99, 54, 49, 101, 51, 57, 55, 48, 49, 99, 102, 57, 98, 52, 54, 98, 100, 50, 53, 98, 102, 53, 102, 48, 53, 57, 53, 98, 98, 101, 50, 52, 54, 53, 53, 49, 52, 49, 52, 51, 56, 101, 55, 97, 49, 48, 48, 98]).toArray⟩ : ByteArray)] w fun e w' => ∃ v, e = .returned v ∧ BysK w' v O ∧ Below w.heap.size w w' := hexK _ 64 O (by decide +kernel) (by decide) (by decide +kernel) (by rw [hO]; decide +kernel) (by rw [hO]; decide +kernel) w
set_option maxRecDepth 100000 in
set_option maxHeartbeats 8000000 in
theorem vec_walk {A R S : Int} {sd : List Int} (cH1 : ∀ w : World, Calls Tryd.prog 13 #[.string (⟨#[57, 100, 54, 49, 98, 49, 57, 100, 101, 102, 102, 100, 53, 97, 54, 48, 98, 97, 56, 52, 52, 97, 102, 52, 57, 50, 101, 99, 50, 99, 99, 52, 52, 52, 52, 57, 99, 53, 54, 57, 55, 98, 51, 50, 54, 57, 49, 57, 55, 48, 51, 98, 97, 99, 48, 51, 49, 99, 97, 101, 55, 102, 54, 48]⟩ : ByteArray)] w fun e w' => ∃ v, e = .returned v ∧ BysK w' v sd ∧ Below w.heap.size w w') (cH2 : ∀ w : World, Calls Tryd.prog 13 #[.string (⟨#[100, 55, 53, 97, 57, 56, 48, 49, 56, 50, 98, 49, 48, 97, 98, 55, 100, 53, 52, 98, 102, 101, 100, 51, 99, 57, 54, 52, 48, 55, 51, 97, 48, 101, 101, 49, 55, 50, 102, 51, 100, 97, 97, 54, 50, 51, 50, 53, 97, 102, 48, 50, 49, 97, 54, 56, 102, 55, 48, 55, 53, 49, 49, 97]⟩ : ByteArray)] w fun e w' => ∃ v, e = .returned v ∧ BysK w' v (b32 A) ∧ Below w.heap.size w w') (cH3 : ∀ w : World, Calls Tryd.prog 13 #[.string (⟨([101, 53, 53, 54, 52, 51, 48, 48, 99, 51, 54, 48, 97, 99, 55, 50, 57, 48, 56, 54, 101, 50, 99, 99, 56, 48, 54, 101, 56, 50, 56, 97, 56, 52, 56, 55, 55, 102, 49, 101, 98, 56, 101, 53, 100, 57, 55, 52, 100, 56, 55, 51, 101, 48, 54, 53, 50, 50, 52, 57, 48, 49, 53, 53].append [53, 102, 98, 56, 56, 50, 49, 53, 57, 48, 97, 51, 51, 98, 97, 99, 99, 54, 49, 101, 51, 57, 55, 48, 49, 99, 102, 57, 98, 52, 54, 98, 100, 50, 53, 98, 102, 53, 102, 48, 53, 57, 53, 98, 98, 101, 50, 52, 54, 53, 53, 49, 52, 49, 52, 51, 56, 101, 55, 97, 49, 48, 48, 98]).toArray⟩ : ByteArray)] w fun e w' => ∃ v, e = .returned v ∧ BysK w' v (b32 R ++ b32 S) ∧ Below w.heap.size w w')
 (cP : ∀ W v, Sgn W → BysK W v sd → Calls Tryd.prog 14 #[v] W fun e w' => e = .returned (.tuple #[.agg (kb A), .int .i64 0]) ∧ Below W.heap.size W w') (cS : ∀ W v u, Sgn W → BysK W v sd → BysK W u [] → Calls Tryd.prog 15 #[v, u] W fun e w' => e = .returned (.tuple #[.agg (sg R S), .int .i64 0]) ∧ Below W.heap.size W w') (c1 : ∀ W v, Sgn W → BysK W v [] → Calls Tryd.prog 16 #[.agg (kb A), v, .agg (sg R S)] W fun e w' => e = .returned (.int .i64 0) ∧ Below W.heap.size W w') (c2 : ∀ W v, Sgn W → BysK W v [] → Calls Tryd.prog 16 #[.agg (kb 1), v, .agg (sg R S)] W fun e w' => e = .returned (.int .i64 200) ∧ Below W.heap.size W w') (c3 : ∀ W v, Sgn W → BysK W v [] → Calls Tryd.prog 16 #[.agg (kb 2), v, .agg (sg R S)] W fun e w' => e = .returned (.int .i64 190) ∧ Below W.heap.size W w') (c4 : ∀ W v, Sgn W → BysK W v [0] → Calls Tryd.prog 16 #[.agg (kb A), v, .agg (sg R S)] W fun e w' => e = .returned (.int .i64 201) ∧ Below W.heap.size W w') (w : World) (hS : Sgn w) : Calls Tryd.prog 3 #[] w fun e w' => e = .returned (.bool true) ∧ Below w.heap.size w w' := by
 have hw : Below w.heap.size w w := Below.refl _ _
 have f4 := hS
 go_enter Tryd.func3, Tryd.ntmps3
 go_wp2_with (fail)
 refine (cH1 w).mono ?_
 rintro e_ w1 ⟨v1, rfl, hB, hb⟩
 replace f4 := f4.below hb
 replace hw := Below.after hw hb
 clear hb
 go_wp2_with (fail)
 refine (cP _ v1 f4 hB).mono ?_
 rintro e_ w2 ⟨rfl, hb⟩
 replace f4 := f4.below hb
 replace hB := hB.keep hb
 replace hw := Below.after hw hb
 clear hb
 go_wp2_with (first | (refine wpList_store_row rfl 25 _ _ rfl (w2.heap.size) (kb A) rfl rfl 25 (kb 0) (hp1_0 w2 _) (kb_info _) ((kb_size _).trans (kb_size _).symm) (kb_one _) ?_; rw [setRow_alloc_new _ _ _ _ _ _ (by simp)]; refine wpList_stay ?_) | fail)
 unfold WpStay
 try simp only [Act.put]
 have rl2 : (w2.alloc (.cells (kb A) 25)).heap[w2.heap.size]? = some (.cells (kb A) 25 (0, 0)) := hp1_0 w2 _
 have hb : Below w2.heap.size w2 (w2.alloc (.cells (kb A) 25)) := ((Below.refl _ _).alloc (Nat.le_refl _) _)
 generalize (w2.alloc (.cells (kb A) 25)) = w3 at *
 have sz_g2 := hw.size
 replace f4 := f4.below hb
 replace hB := hB.keep hb
 replace hw := Below.after hw hb
 clear hb
 generalize w2.heap.size = g2 at *
 clear w2
 go_wp2_with (fail)
 refine (cS _ v1 _ f4 hB (nilK _)).mono ?_
 rintro e_ w4 ⟨rfl, hb⟩
 replace rl2 := keep hb rl2
 replace f4 := f4.below hb
 replace hB := hB.keep hb
 replace hw := Below.after hw hb
 clear hb
 go_wp2_with (first | (refine wpList_store_row rfl 30 _ _ rfl (w4.heap.size) (sg R S) rfl rfl 30 (Wi.irow .u8 (Wi.zr 64)) (hp1_0 w4 _) (sg_infoG _ _) (z64_size.trans (sg_size _ _).symm) (sg_one _ _) ?_; rw [setRow_alloc_new _ _ _ _ _ _ (by simp)]; refine wpList_stay ?_) | (refine wpList_alloc rfl 30 rfl (Wi.irow .u8 (Wi.zr 64)) zG ?_) | fail)
 unfold WpStay
 try simp only [Act.put]
 have rl4 : (w4.alloc (.cells (sg R S) 30)).heap[w4.heap.size]? = some (.cells (sg R S) 30 (0, 0)) := hp1_0 w4 _
 have hb : Below w4.heap.size w4 (w4.alloc (.cells (sg R S) 30)) := ((Below.refl _ _).alloc (Nat.le_refl _) _)
 generalize (w4.alloc (.cells (sg R S) 30)) = w5 at *
 have lt_g4_0 := lt_of_row rl2
 have sz_g4 := hw.size
 replace rl2 := keep hb rl2
 replace f4 := f4.below hb
 replace hB := hB.keep hb
 replace hw := Below.after hw hb
 clear hb
 generalize w4.heap.size = g4 at *
 clear w4
 go_wp2_with (fail)
 have hb : Below w5.heap.size w5 w5.drew := below_drN (Below.refl _ _) 1
 replace rl2 := keep hb rl2
 replace rl4 := keep hb rl4
 replace f4 := f4.below hb
 replace hB := hB.keep hb
 replace hw := Below.after hw hb
 clear hb
 refine wp_region_noPanic ?_
 refine wp_region_held (S := fun W_ => W_.heap[g2]? = some (.cells (kb A) 25 (0, 0))) (by kernel_rfl) ?_
 change wpAnyH _ _ _ _ _ _ _ _ (World.drew _)
 generalize w5.drew = wd1 at *
 refine wpAnyH_take (i := 0) (v := ?v2) rfl (by kernel_rfl) (by kernel_rfl) (by kernel_rfl) (fun _ _ _ h => h) (Or.inl ⟨by rfl, ?y2⟩) (rl2) ?r2
 case y2 =>
  intro w_ hS_
  go_simp
  try with_reducible rfl
 simp only [Act.put, ZPa, ZPc, ZPd, ZPe, ZPf]
 refine wpAnyH_take (i := 1) (v := ?v3) rfl (by kernel_rfl) (by kernel_rfl) (by kernel_rfl) (fun _ _ _ h => h) (Or.inl ⟨by rfl, ?y3⟩) (rl2) ?r3
 case y3 =>
  intro w_ hS_
  go_simp
  try with_reducible rfl
 simp only [Act.put, ZPa, ZPb, ZPc, ZPd, ZPe, ZPf]
 refine wpAnyH_take (i := 2) (v := ?v4) rfl (by kernel_rfl) (by kernel_rfl) (by kernel_rfl) (fun _ _ _ h => h) (Or.inl ⟨by rfl, ?y4⟩) (rl2) ?r4
 case y4 =>
  intro w_ hS_
  go_simp
  try with_reducible rfl
 simp only [Act.put, ZPa, ZPb, ZPc, ZPd, ZPe, ZPf]
 refine wpAnyH_take (i := 3) (v := ?v5) rfl (by kernel_rfl) (by kernel_rfl) (by kernel_rfl) (fun _ _ _ h => h) (Or.inl ⟨by rfl, ?y5⟩) (rl2) ?r5
 case y5 =>
  intro w_ hS_
  go_simp
  try with_reducible rfl
 simp only [Act.put, ZPa, ZPb, ZPc, ZPd, ZPe, ZPf]
 refine wpAnyH_take (i := 4) (v := ?v6) rfl (by kernel_rfl) (by kernel_rfl) (by kernel_rfl) (fun _ _ _ h => h) (Or.inl ⟨by rfl, ?y6⟩) (rl2) ?r6
 case y6 =>
  intro w_ hS_
  go_simp
  try with_reducible rfl
 simp only [Act.put, ZPa, ZPb, ZPc, ZPd, ZPe, ZPf]
 refine wpAnyH_take (i := 5) (v := ?v7) rfl (by kernel_rfl) (by kernel_rfl) (by kernel_rfl) (fun _ _ _ h => h) (Or.inl ⟨by rfl, ?y7⟩) (rl2) ?r7
 case y7 =>
  intro w_ hS_
  go_simp
  try with_reducible rfl
 simp only [Act.put, ZPa, ZPb, ZPc, ZPd, ZPe, ZPf]
 refine wpAnyH_take (i := 6) (v := ?v8) rfl (by kernel_rfl) (by kernel_rfl) (by kernel_rfl) (fun _ _ _ h => h) (Or.inl ⟨by rfl, ?y8⟩) (rl2) ?r8
 case y8 =>
  intro w_ hS_
  go_simp
  try with_reducible rfl
 simp only [Act.put, ZPa, ZPb, ZPc, ZPd, ZPe, ZPf]
 refine wpAnyH_take (i := 7) (v := .slice (some ⟨g2, 0, none⟩) 32 32) rfl (by kernel_rfl) (by kernel_rfl) (by kernel_rfl) (fun _ _ _ h => h) (Or.inl ⟨by rfl, ?y9⟩) (rl2) ?r9
 case y9 =>
  intro w_ hS_
  go_simp
  try with_reducible rfl
 simp only [Act.put, ZPa, ZPb, ZPc, ZPd, ZPe, ZPf]
 refine wpAnyH_take (i := 8) (v := .string (strOfNums (b32 A))) rfl (by kernel_rfl) (by kernel_rfl) (by kernel_rfl) (fun _ _ _ h => h) (Or.inl ⟨by rfl, ?y10⟩) (rl2) ?r10
 case y10 =>
  intro w_ hS_
  go_simp
  rw [conv_bys (bysK_row hS_).1]
  rfl
 simp only [Act.put, ZPa, ZPb, ZPc, ZPd, ZPe, ZPf]
 refine eH_one (k := 9) (fuel := 3) (by kernel_rfl) rfl (by kernel_rfl) (fun K_ hK_ => ?_)
 refine wp_call_ex (f := 13) (by kernel_rfl) (cH2 _) (fun v_ wq11 hX_ => ?_)
 obtain ⟨hO_, hb⟩ := hX_
 replace rl2 := keep hb rl2
 replace rl4 := keep hb rl4
 replace f4 := f4.below hb
 replace hB := hB.keep hb
 replace hw := Below.after hw hb
 clear hb
 refine hK_ _ _ (rl2) ?_
 simp only [Act.put, ZPa, ZPb, ZPc, ZPd, ZPe, ZPf]
 clear hK_
 refine eH_one (k := 10) (fuel := 2) (by kernel_rfl) rfl (by kernel_rfl) (fun K_ hK_ => ?_)
 refine e_world_op (.string (strOfNums (b32 A))) _ (by simp only [execOp]; go_simp; rw [conv_bys hO_.1]; rfl) ?_
 refine hK_ _ _ (rl2) ?_
 simp only [Act.put, ZPa, ZPb, ZPc, ZPd, ZPe, ZPf]
 clear hK_ hO_
 refine wpAnyH_take (i := 11) (v := ?v12) rfl (by kernel_rfl) (by kernel_rfl) (by kernel_rfl) (fun _ _ _ h => h) (Or.inl ⟨by rfl, ?y12⟩) (rl2) ?r12
 case y12 =>
  intro w_ hS_
  go_simp
  try with_reducible rfl
 simp only [Act.put, ZPa, ZPb, ZPc, ZPd, ZPe, ZPf]
 refine wpAnyH_take (i := 12) (v := ?v13) rfl (by kernel_rfl) (by kernel_rfl) (by kernel_rfl) (fun _ _ _ h => h) (Or.inl ⟨by rfl, ?y13⟩) (rl2) ?r13
 case y13 =>
  intro w_ hS_
  go_simp
  try with_reducible rfl
 simp only [Act.put, ZPa, ZPb, ZPc, ZPd, ZPe, ZPf]
 refine wpAnyH_done (by kernel_rfl) ?_ _
 refine NoPanic.normal ?_
 go_wp2_with (fail)
 have hb : Below wq11.heap.size wq11 wq11.drew := below_drN (Below.refl _ _) 1
 replace rl2 := keep hb rl2
 replace rl4 := keep hb rl4
 replace f4 := f4.below hb
 replace hB := hB.keep hb
 replace hw := Below.after hw hb
 clear hb
 refine wp_region_noPanic ?_
 refine wp_region_held (S := fun W_ => W_.heap[g4]? = some (.cells (sg R S) 30 (0, 0))) (by kernel_rfl) ?_
 change wpAnyH _ _ _ _ _ _ _ _ (World.drew _)
 generalize wq11.drew = wd14 at *
 refine wpAnyH_take (i := 0) (v := .slice (some ⟨g4, 0, none⟩) 64 64) rfl (by kernel_rfl) (by kernel_rfl) (by kernel_rfl) (fun _ _ _ h => h) (Or.inl ⟨by rfl, ?y15⟩) (rl4) ?r15
 case y15 =>
  intro w_ hS_
  go_simp
  try with_reducible rfl
 simp only [Act.put, ZPa, ZPc, ZPd, ZPe, ZPf]
 refine wpAnyH_take (i := 1) (v := .string (strOfNums (b32 R ++ b32 S))) rfl (by kernel_rfl) (by kernel_rfl) (by kernel_rfl) (fun _ _ _ h => h) (Or.inl ⟨by rfl, ?y16⟩) (rl4) ?r16
 case y16 =>
  intro w_ hS_
  go_simp
  rw [conv_bys (bysK_sg hS_).1]
  rfl
 simp only [Act.put, ZPa, ZPb, ZPc, ZPd, ZPe, ZPf]
 refine eH_one (k := 2) (fuel := 2) (by kernel_rfl) rfl (by kernel_rfl) (fun K_ hK_ => ?_)
 refine wp_call_ex (f := 13) (by kernel_rfl) (cH3 _) (fun v_ wq17 hX_ => ?_)
 obtain ⟨hO_, hb⟩ := hX_
 replace rl2 := keep hb rl2
 replace rl4 := keep hb rl4
 replace f4 := f4.below hb
 replace hB := hB.keep hb
 replace hw := Below.after hw hb
 clear hb
 refine hK_ _ _ (rl4) ?_
 simp only [Act.put, ZPa, ZPb, ZPc, ZPd, ZPe, ZPf]
 clear hK_
 refine eH_one (k := 3) (fuel := 1) (by kernel_rfl) rfl (by kernel_rfl) (fun K_ hK_ => ?_)
 refine e_world_op (.string (strOfNums (b32 R ++ b32 S))) _ (by simp only [execOp]; go_simp; rw [conv_bys hO_.1]; rfl) ?_
 refine hK_ _ _ (rl4) ?_
 simp only [Act.put, ZPa, ZPb, ZPc, ZPd, ZPe, ZPf]
 clear hK_ hO_
 refine wpAnyH_take (i := 4) (v := ?v18) rfl (by kernel_rfl) (by kernel_rfl) (by kernel_rfl) (fun _ _ _ h => h) (Or.inl ⟨by rfl, ?y18⟩) (rl4) ?r18
 case y18 =>
  intro w_ hS_
  go_simp
  try with_reducible rfl
 simp only [Act.put, ZPa, ZPb, ZPc, ZPd, ZPe, ZPf]
 refine wpAnyH_done (by kernel_rfl) ?_ _
 refine NoPanic.normal ?_
 go_wp2_with (first | (refine wpList_load_want rfl 25 _ rfl (g2) rfl 25 (kb A) (0, 0) _ rl2 Tryd.underlying25 rfl (kb_info _) ?_) | (refine wpList_load_want rfl 30 _ rfl (g4) rfl 30 (sg R S) (0, 0) _ rl4 Tryd.underlying30 rfl (sg_infoG _ _) ?_) | (refine wpList_build_as rfl 25 _ rfl [(0, .int .u8 1)] rfl (kb 1) (by kernel_rfl) ?_) | (refine wpList_build_as rfl 25 _ rfl [(0, .int .u8 2)] rfl (kb 2) (by kernel_rfl) ?_) | fail)
 refine (c1 _ _ f4 (nilK _)).mono ?_
 rintro e_ w11 ⟨rfl, hb⟩
 replace rl2 := keep hb rl2
 replace rl4 := keep hb rl4
 replace f4 := f4.below hb
 replace hB := hB.keep hb
 replace hw := Below.after hw hb
 clear hb
 go_wp2_with (first | (refine wpList_load_want rfl 25 _ rfl (g2) rfl 25 (kb A) (0, 0) _ rl2 Tryd.underlying25 rfl (kb_info _) ?_) | (refine wpList_load_want rfl 30 _ rfl (g4) rfl 30 (sg R S) (0, 0) _ rl4 Tryd.underlying30 rfl (sg_infoG _ _) ?_) | (refine wpList_build_as rfl 25 _ rfl [(0, .int .u8 1)] rfl (kb 1) (by kernel_rfl) ?_) | (refine wpList_build_as rfl 25 _ rfl [(0, .int .u8 2)] rfl (kb 2) (by kernel_rfl) ?_) | fail)
 refine (c2 _ _ f4 (nilK _)).mono ?_
 rintro e_ w12 ⟨rfl, hb⟩
 replace rl2 := keep hb rl2
 replace rl4 := keep hb rl4
 replace f4 := f4.below hb
 replace hB := hB.keep hb
 replace hw := Below.after hw hb
 clear hb
 go_wp2_with (first | (refine wpList_load_want rfl 25 _ rfl (g2) rfl 25 (kb A) (0, 0) _ rl2 Tryd.underlying25 rfl (kb_info _) ?_) | (refine wpList_load_want rfl 30 _ rfl (g4) rfl 30 (sg R S) (0, 0) _ rl4 Tryd.underlying30 rfl (sg_infoG _ _) ?_) | (refine wpList_build_as rfl 25 _ rfl [(0, .int .u8 1)] rfl (kb 1) (by kernel_rfl) ?_) | (refine wpList_build_as rfl 25 _ rfl [(0, .int .u8 2)] rfl (kb 2) (by kernel_rfl) ?_) | fail)
 refine (c3 _ _ f4 (nilK _)).mono ?_
 rintro e_ w13 ⟨rfl, hb⟩
 replace rl2 := keep hb rl2
 replace rl4 := keep hb rl4
 replace f4 := f4.below hb
 replace hB := hB.keep hb
 replace hw := Below.after hw hb
 clear hb
 have hb : Below w13.heap.size w13 (w13.alloc (.cells #[.int .u8 0] 5)) := (Below.refl _ _).alloc (Nat.le_refl _) _
 have rA := keep hb rl4
 clear hb
 go_wp2_with (first | (refine wpList_load_want rfl 25 _ rfl (g2) rfl 25 (kb A) (0, 0) _ rl2 Tryd.underlying25 rfl (kb_info _) ?_) | (refine wpList_load_want rfl 30 _ rfl (g4) rfl 30 (sg R S) (0, 0) _ rl4 Tryd.underlying30 rfl (sg_infoG _ _) ?_) | (refine wpList_load_want rfl 30 _ rfl g4 rfl 30 (sg R S) (0, 0) _ rA Tryd.underlying30 rfl (sg_infoG _ _) ?_) | fail)
 clear rA
 have rb := hp1_0 w13 (.cells #[.int .u8 0] 5)
 have hb : Below w13.heap.size w13 (w13.alloc (.cells #[.int .u8 0] 5)) := (Below.refl _ _).alloc (Nat.le_refl _) _
 generalize (w13.alloc (.cells #[.int .u8 0] 5)) = w14 at *
 replace rl2 := keep hb rl2
 replace rl4 := keep hb rl4
 replace f4 := f4.below hb
 replace hB := hB.keep hb
 replace hw := Below.after hw hb
 clear hb
 generalize w13.heap.size = gb at *
 refine (c4 _ _ f4 (bysK_row1 rb)).mono ?_
 rintro e_ w15 ⟨rfl, hb⟩
 replace rl2 := keep hb rl2
 replace rl4 := keep hb rl4
 replace f4 := f4.below hb
 replace hB := hB.keep hb
 replace hw := Below.after hw hb
 clear hb
 go_wp2_with (fail)
 go_ret
 exact ⟨rfl, hw⟩
theorem one_key : KeyOf (kb 1) 1 := kb_key 1 (by decide) (by decide)
theorem two_key : KeyOf (kb 2) 2 := kb_key 2 (by decide) (by decide)
theorem sigR_key (sd b : List Int) : KeyOf (kb (sigR sd b)) (sigR sd b) := pb_key _
theorem sigS_key (sd b : List Int) : KeyOf (kb (sigS sd b)) (sigS sd b) := kb_key _ (sgS_bd _ _ _ _).1 (Int.lt_trans (sgS_bd _ _ _ _).2 L_lt)
theorem a_vec : GivesS 3 #[] (.bool true) := by
 intro w hS
 have hR := sigR_key vsd []
 have hK := sigS_key vsd []
 refine vec_walk (A := pb (pubP vsd)) (R := sigR vsd []) (S := sigS vsd []) (hex1 vsd rfl) (hex2 _ (by rw [v_pub])) (hex3 _ (by rw [v_R, v_S])) (fun W v h1 h2 => ?_) (fun W v u h1 h2 h3 => a_Sign_ok v_len W h1 h2 h3) (fun W v h1 h2 => ?_) (fun W v h1 h2 => ?_) (fun W v h1 h2 => ?_) (fun W v h1 h2 => ?_) w hS
 ·have h := a_Public W h1 h2
  unfold pbk pbe at h
  rw [if_pos v_len, if_pos v_len] at h
  exact h
 ·have h := a_Check (pb_key (pubP vsd)) hR hK W h1 h2
  rw [chk_signed] at h
  exact h
 ·have h := a_Check one_key hR hK W h1 h2
  rw [v_one] at h
  exact h
 ·have h := a_Check two_key hR hK W h1 h2
  rw [v_two] at h
  exact h
 ·have h := a_Check (pb_key (pubP vsd)) hR hK W h1 h2
  rw [v_more] at h
  exact h
end Go.Proofs.YtajaiiidafkijaaDoor

