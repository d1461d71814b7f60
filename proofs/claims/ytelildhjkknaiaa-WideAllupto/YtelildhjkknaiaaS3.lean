import Derived.Test.YtelildhjkknaiaaProg
import Derived.WalkKit
import Derived.WalkSpells
import Derived.WalkLawsBesides
import Derived.Lib.QuietBelow
import Derived.BigQuiet
import Derived.Test.YtelildhjkknaiaaS0
import Derived.Test.YtelildhjkknaiaaS2
import Derived.Deep.Cut
import Derived.ProofKit
import Derived.OpenShut
import Derived.ChangeSlices
import Derived.ChangeArms
import Derived.Deep.Slices
import Derived.OrdersHeld
import Derived.Deep.RegionHeld3
import Derived.Deep.RegionLaw
import Derived.Deep.AppendLies
namespace Go.Proofs.Ytelildhjkknaiaa.Wi
open Go Go.RowKit Go.Sort
attribute [local go_sem] setCell_drewN alloc_drewN

theorem fol_concat (h a b : List Int) (q : Nat) (ha : a.length = 128 * q) : ∀ k, fol h (a ++ b) (q + k) = fol (fol h a q) b k
  | 0 => by rw [Nat.add_zero, fol_append h a b q (by omega)]; rfl
  | k + 1 => by
    rw [← Nat.add_assoc, fol, fol_concat h a b q ha k, fol]
    congr 1
    unfold chunk
    apply prq_congr
    intro j _ _
    rw [wat, wat, getD_append_ge a b _ (by omega)]
    congr 1
    omega
theorem bys_none2 {W : World} {ao : Option Addr} {m cap : Nat} {bs : List Int} (hB : Bys W (.slice ao m cap) bs) (hn : ao = none → cap = 0) : ao = none → m = 0 ∧ cap = 0 := by
  obtain ⟨ao', cap', e, _, hc, _⟩ := hB
  cases e
  intro h
  refine ⟨?_, hn h⟩
  rcases Nat.eq_zero_or_pos bs.length with e | e
  · exact e
  · obtain ⟨b, off, e', _⟩ := hc 0 e
    rw [h] at e'; cases e'
theorem bys_cells2 {W : World} {ao : Option Addr} {m cap : Nat} {bs : List Int} (hB : Bys W (.slice ao m cap) bs) : ∀ ad, ao = some ad → ∀ j u, (bs.map (Value.int .u8))[j]? = some u → W.cell? (ad.add j) = some u := by
  have e : m = bs.length := by obtain ⟨_, _, e, _⟩ := hB; cases e; rfl
  subst e
  exact bys_cells hB
theorem own_cap {W : World} {b n : Nat} {T : TypeId} {v : Value} {xs : List Value} (h : W.ownsRow b T 1 v n xs) : ∀ a l c, v = .slice a l c → l ≤ c := by
  intro a l c e
  obtain ⟨_, ⟨rfl, _⟩ | ⟨g, cap, cur, rfl, _, _, h3, _⟩⟩ := h
  · cases e; exact Nat.le_refl _
  · cases e; exact h3
theorem own_nil {W : World} {b n : Nat} {T : TypeId} {v : Value} {xs : List Value} (h : W.ownsRow b T 1 v n xs) : ∀ a l c, v = .slice a l c → a = none → c = 0 := by
  intro a l c e ha
  obtain ⟨_, ⟨rfl, _⟩ | ⟨g, cap, cur, rfl, _⟩⟩ := h
  · cases e; rfl
  · cases e; cases ha
theorem plen_fits (n e : Nat) (hn : n % 128 = 0) : (e + plen (n + e)) % 128 = 0 := by unfold plen; omega
theorem slice_to (ao : Option Addr) (len cap n : Nat) (h : n ≤ cap) (W : World) : (Instr.sliceAt 22 (.slice ao len cap) none (some (.int .i64 (n : Int))) none).run Try.prog W = .ok (.slice ao n cap) W := by
  rw [run_sliceAt_slice _ _ _ _ _ _ elem8, run_slice_h W 22 ao len cap elem8 .i64 _ (by omega) (by omega), size8]
  show Result.ok (sliced _ _ _ _ 1) W = _
  rw [Int.toNat_natCast, sliced, Nat.zero_mul]
  by_cases e : cap = 0
  · rw [if_pos e]; rfl
  · rw [if_neg e]
    cases ao <;> rfl
theorem Bys.take {W : World} {ao : Option Addr} {cap n : Nat} {bs : List Int} (h : Bys W (.slice ao bs.length cap) bs) (hn : n ≤ bs.length) : Bys W (.slice ao n cap) (bs.take n) := by
  obtain ⟨ao', cap', e, hl, hc, hz⟩ := h
  cases e
  have hln : (bs.take n).length = n := by rw [List.length_take]; omega
  refine ⟨ao, cap, by rw [hln], by omega, fun j hj => ?_, fun z h => hz z (List.mem_of_mem_take h)⟩
  obtain ⟨b, off, e, h1, h2⟩ := hc j (by omega)
  refine ⟨b, off, e, h1, ?_⟩
  rw [h2, List.getD_eq_getElem?_getD, List.getD_eq_getElem?_getD, List.getElem?_take_of_lt (by omega)]
/-- What the two roads come to. -/
theorem folds_same (a e : List Int) (ha : a.length % 128 = 0) : fol (fol sl a (a.length / 128)) (e ++ padL (a.length + e.length)) ((e ++ padL (a.length + e.length)).length / 128) = sumW (a ++ e) := by
  have hp := padL_len (a.length + e.length)
  have hf := plen_fits a.length e.length ha
  have hl : (e ++ padL (a.length + e.length)).length = e.length + plen (a.length + e.length) := by rw [List.length_append, hp]
  rw [← fol_concat sl a _ (a.length / 128) (by omega), sumW, List.append_assoc, show (a ++ e).length = a.length + e.length from List.length_append]
  congr 1
  rw [List.length_append, List.length_append, hp]
  omega
set_option maxRecDepth 100000 in
set_option maxHeartbeats 8000000 in
theorem folds_any (xs es : List Int) (w : World) (va ve : Value) (hNa : BysN w va xs) (hCa : ∀ a l c, va = .slice a l c → l ≤ c) (hNe : BysN w ve es) (hsz : xs.length + es.length ≤ 4194304) : Calls Try.prog 8 #[va, ve] w fun e w' => e = .returned (.bool true) ∧ Below w.heap.size w w' := by
  have hzs : ∀ z ∈ xs, 0 ≤ z ∧ z < 256 := by obtain ⟨⟨_, _, _, _, _, h⟩, _⟩ := hNa; exact h
  have hze : ∀ z ∈ es, 0 ≤ z ∧ z < 256 := by obtain ⟨⟨_, _, _, _, _, h⟩, _⟩ := hNe; exact h
  obtain ⟨hBa, _, hnilA⟩ := hNa
  obtain ⟨ao, cap, rfl, _, _, _⟩ := id hBa
  replace hCa := hCa _ _ _ rfl
  have hnA := bys_none hBa hnilA
  obtain ⟨hBe, _, hnilE⟩ := hNe
  obtain ⟨eo, ecap, rfl, _, _, _⟩ := id hBe
  have hnE := bys_none hBe hnilE
  obtain ⟨i0, hi, hz0, hz1, hz2⟩ := info8
  obtain ⟨n, en⟩ : ∃ n : Nat, n = xs.length - xs.length % 128 := ⟨_, rfl⟩
  have hcut := slice_to ao xs.length cap n (by omega)
  have hBt := Bys.take hBa (n := n) (by omega)
  have hnT : ao = none → n = 0 ∧ cap = 0 := fun h => by have := hnA h; omega
  have hlt : (xs.take n).length = n := by rw [List.length_take]; omega
  have hzt : ∀ z ∈ xs.take n, 0 ≤ z ∧ z < 256 := fun z h => hzs z (List.mem_of_mem_take h)
  have enI : (xs.length : Int) - (xs.length : Int) % 128 = (n : Int) := by omega
  have hn64 : n % 128 = 0 := by omega
  have hsz2 : n + es.length ≤ 4194304 := by omega
  clear hBa hnilA hnilE hnA hCa en hzs
  generalize xs.take n = A at *
  have hsame := folds_same A es (by omega)
  rw [hlt] at hsame
  have hpf := plen_fits n es.length hn64
  have hpb := plen_bd (n + es.length)
  have hpl := padL_len (n + es.length)
  have cW := a_words sl A rfl
  have cF := fun (W : World) (x : Value) (h : Bys W x A) => r_fold sl A rfl W x h sl_bd
  simp only [hlt] at cW cF
  have hHA8 : (fol sl A (n / 128)).length = 8 := fol_len rfl _ _
  have cW2 := a_words (fol sl A (n / 128)) (es ++ padL (n + es.length)) hHA8
  simp only [hsame] at cW2
  have hRl : (es ++ padL (n + es.length)).length = es.length + plen (n + es.length) := by rw [List.length_append, hpl]
  have hRz := both_bd hze (padL_bd (n + es.length))
  have hPz := padL_bd (n + es.length)
  have cB := r_bytes (sumW (A ++ es)) (sumW_len _) (sumW_bd _)
  rw [show byts (sumW (A ++ es)) = sumL (A ++ es) from rfl] at cB
  have heq := eqSum (A ++ es)
  have heq2 : ∀ W, (Op.equalIn 10000 31 (.agg (irow .u64 (fol sl A (n / 128)))) (.agg (irow .u64 (fol sl A (n / 128))))).run Try.prog W = .ok true W := fun W => by rw [eq23 _ _ hHA8 hHA8]; simp
  have hWl : (A ++ es).length = n + es.length := by rw [List.length_append, hlt]
  have hWz := both_bd hzt hze
  have cS := fun (W : World) (x : Value) h0 h1 => a_sum (A ++ es) W x h0 h1 (by omega)
  clear hsame
  generalize fol sl A (n / 128) = HA at *
  generalize sumW (A ++ es) = SW at *
  generalize sumL (A ++ es) = SL at *
  have cP := a_pad (n + es.length) (by omega)
  generalize eR : es ++ padL (n + es.length) = R at *
  generalize ePL : padL (n + es.length) = PL at *
  generalize plen (n + es.length) = pl at *
  go_enter Try.func8, Try.ntmps8
  go_wp2_with (fail)
  refine (r_start.at _).mono ?_
  rintro e_ w1 ⟨rfl, hw⟩
  replace hBt := hBt.keep hw
  replace hBe := hBe.keep hw
  go_wp2_with (fail)
  refine (cW w1 _ hBt (by omega)).mono ?_
  rintro e_ w2 ⟨rfl, hb⟩
  replace hBt := hBt.keep hb
  replace hBe := hBe.keep hb
  replace hw := Below.after hw hb
  clear hb
  go_upto_region 3 with (first | (refine wpList_alloc rfl 31 rfl (irow .u64 (zr 8)) zw8 ?_) | (refine wpList_store_row rfl 31 _ _ rfl (w2.heap.size) (irow .u64 HA) rfl rfl 31 _ (hp1_0 w2 _) (info23 _ hHA8) (fit8 _ _ (zr_len 8) hHA8) (irow_one _ _) ?_; rw [setRow_alloc_new _ _ _ _ _ _ rfl]) | fail)
  simp only [Act.put, List.setIfInBounds_toArray, List.set_cons_succ, List.set_cons_zero]
  have rh := hp1_0 w2 (.cells (irow .u64 HA) 31)
  have hb : Below w2.heap.size w2 (w2.alloc (.cells (irow .u64 HA) 31)) := (Below.refl _ _).alloc (Nat.le_refl _) _
  replace hBt := hBt.keep hb
  replace hBe := hBe.keep hb
  replace hw := Below.after hw hb
  clear hb
  generalize w2.alloc (.cells (irow .u64 HA) 31) = w3 at *
  generalize w2.heap.size = gH at *
  -- the end, and the padding behind it
  have hba : Below w3.heap.size w3 (w3.alloc (.cells #[] 5)) := (Below.refl _ _).alloc (Nat.le_refl _) _
  have hcell_ := bys_cells2 (hBe.keep hba)
  have hnone_ := hnE
  have hoe := own_empty w3
  have hbase_ := hba.size
  go_wp2_with (at_builtin; refine wpList_append_own_any _ rfl (.tmp 19) (.tmp 20) 22 rfl w3.heap.size 5 i0 (.int .u8 0) Try.underlying22 hi hz0 hz1 hz2 rfl _ 0 _ rfl hoe eo es.length ecap (es.map (Value.int .u8)) rfl (by rw [List.length_map]; omega) hnone_ hcell_ (ints_one .u8 _) (by unfold maxLen; omega) (by omega) hbase_ ?_)
  intro v1 w4 hown hgr
  try simp only [List.nil_append, Nat.zero_add] at hown
  replace hgr : (w3.alloc (.cells #[] 5)).grownBy w4 (some w3.heap.size) := hgr
  have hT : Below w3.heap.size w3 w4 := hba.grown hgr hba.size (fun k h => by injection h with h; omega)
  clear hba hcell_ hnone_ hoe hbase_ hgr
  obtain ⟨ao1, cap1, rfl⟩ := slen_own hown
  go_wp2_with (fail)
  refine (cP w4).mono ?_
  rintro e_ w5 ⟨vp, gp, rfl, rfl, hgp, rp, hb⟩
  have own1 := own_keep hown hb
  have hs4 := hT.size
  replace hT := hT.trans (hb.mono hs4)
  clear hown hb cP
  have hBp : Bys w5 (.slice (some ⟨gp, 0, none⟩) pl pl) PL := by rw [← hpl]; exact Bys.of_row rp (by omega) hPz _
  have hcell_ := bys_cells2 hBp
  have hnone_ : (some (⟨gp, 0, none⟩ : Addr)) = none → pl = 0 ∧ pl = 0 := fun h => by cases h
  have hbase_ := hT.size
  go_wp2_with (at_builtin; refine wpList_append_own_any _ rfl (.tmp 21) (.tmp 28) 22 rfl w3.heap.size 5 i0 (.int .u8 0) Try.underlying22 hi hz0 hz1 hz2 rfl _ es.length _ rfl own1 (some ⟨gp, 0, none⟩) pl pl (PL.map (Value.int .u8)) rfl (by rw [List.length_map]; omega) hnone_ hcell_ (ints_one .u8 _) (by unfold maxLen; omega) (by omega) hbase_ ?_)
  intro v2 w6 own2 hgr
  rw [← List.map_append, eR] at own2
  replace hT := hT.trans ((Below.refl w3.heap.size w5).grown hgr hbase_ (fun k h => (own1.lt k h).1))
  clear hcell_ hnone_ hbase_ hgr own1 hBp rp
  obtain ⟨ao2, cap2, rfl⟩ := slen_own own2
  have hd1 : (((es.length : Int) + (pl : Int)) % 128 != 0) = false := by simp; omega
  have hd2 : decide ((es.length : Int) + (pl : Int) < (es.length : Int) + 17) = false := by simp; omega
  have hs6 := hT.size
  replace hBt := hBt.keep hT
  replace hBe := hBe.keep hT
  replace rh := keep hT rh
  replace hw := Below.after hw hT
  -- the whole
  have hba : Below w6.heap.size w6 (w6.alloc (.cells #[] 5)) := (Below.refl _ _).alloc (Nat.le_refl _) _
  have hcell_ := bys_cells2 (hBt.keep hba)
  have hnone_ := hnT
  have hoe := own_empty w6
  have hbase_ := hba.size
  clear hT
  go_wp2_with (at_builtin; refine wpList_append_own_any _ rfl (.tmp 42) (.tmp 43) 22 rfl w6.heap.size 5 i0 (.int .u8 0) Try.underlying22 hi hz0 hz1 hz2 rfl _ 0 _ rfl hoe ao n cap (A.map (Value.int .u8)) rfl (by rw [List.length_map]; omega) hnone_ hcell_ (ints_one .u8 _) (by unfold maxLen; omega) (by omega) hbase_ ?_)
  intro v3 w7 hown hgr
  try simp only [List.nil_append, Nat.zero_add] at hown
  replace hgr : (w6.alloc (.cells #[] 5)).grownBy w7 (some w6.heap.size) := hgr
  have hT : Below w6.heap.size w6 w7 := hba.grown hgr hba.size (fun k h => by injection h with h; omega)
  clear hba hcell_ hnone_ hoe hbase_ hgr
  obtain ⟨ao3, cap3, rfl⟩ := slen_own hown
  have hcell_ := bys_cells2 (hBe.keep hT)
  have hnone_ := hnE
  have hbase_ := hT.size
  go_wp2_with (at_builtin; refine wpList_append_own_any _ rfl (.tmp 44) (.tmp 45) 22 rfl w6.heap.size 5 i0 (.int .u8 0) Try.underlying22 hi hz0 hz1 hz2 rfl _ n _ rfl hown eo es.length ecap (es.map (Value.int .u8)) rfl (by rw [List.length_map]; omega) hnone_ hcell_ (ints_one .u8 _) (by unfold maxLen; omega) (by omega) hbase_ ?_)
  intro v4 w8 own4 hgr
  rw [← List.map_append] at own4
  replace hT := hT.trans ((Below.refl w6.heap.size w7).grown hgr hbase_ (fun k h => (hown.lt k h).1))
  clear hcell_ hnone_ hbase_ hgr hown
  obtain ⟨ao4, cap4, rfl⟩ := slen_own own4
  replace hBt := hBt.keep hT
  replace rh := keep hT rh
  replace hw := Below.after hw hT
  replace own2 := own_keep own2 hT
  have hBr := Bys.of_own own2 (by omega) hRz
  have hBw := Bys.of_own own4 (by omega) hWz
  have hcw := own_cap own4
  clear hT own2 own4 hBe hd1 hd2 cW hcut
  have Hrh := keepr rh
  go_wp2
  refine wp_region_quiet_below (by kernel_rfl) (by kernel_rfl) ?_
  refine wpQuiet_load_row rfl 31 _ rfl (gH) rfl 31 (irow .u64 HA) (0, 0) _ Hrh.out Try.underlying31 rfl (info23 _ hHA8) ?_
  simp only [Act.put, List.setIfInBounds_toArray, List.set_cons_succ, List.set_cons_zero]
  go_big_quiet_step (fail)
  go_big_quiet_step (exact Calls.regrown_of (cW2 _ _ (hBr.keep (below_regrown _ _ _)) (by omega)))
  go_big_quiet_step (exact cB.re)
  go_big_quiet_step (fail)
  go_big_quiet_step (exact Calls.regrown_of (cS _ _ (hBw.keep (below_regrown _ _ _)) hcw))
  go_big_quiet_step (fail)
  go_big_quiet_step (fail)
  refine wpQuiet_load_want rfl 31 _ rfl (gH) rfl 31 (irow .u64 HA) (0, 0) _ Hrh.out Try.underlying31 rfl (info23 _ hHA8) ?_
  simp only [Act.put, List.setIfInBounds_toArray, List.set_cons_succ, List.set_cons_zero]
  go_big_quiet_step (exact r_start.re)
  go_big_quiet_step (fail)
  go_big_quiet_step (exact Calls.regrown_of (cF _ _ (hBt.keep (below_regrown _ _ _)) (by omega)))
  go_big_quiet_step (fail)
  go_big_quiet_step (fail)
  go_big_quiet_step (fail)
  refine wpQuiet_nil ?_
  rintro _ ⟨p, rfl⟩
  have hb := below_regrown w8 p.d p.os
  generalize grow (redrawn w8 p.d) p.os = w9 at *
  replace hw := Below.after hw hb
  clear hb

  go_wp2
  go_ret
  exact ⟨rfl, hw⟩

end Go.Proofs.Ytelildhjkknaiaa.Wi


namespace Go.Proofs.Ytelildhjkknaiaa.Wi
open Go Go.RowKit Go.Sort
attribute [local go_sem] setCell_drewN alloc_drewN

theorem wpList_append_own_want {P : Program} (w : World) {ops : Array Oper} {rest : List Oper} {o : Oper} {a : Act} {Q : Exit → Act → World → Prop} (hw : Region.wanted o (yielded ops a.tmps) = true) (s x : Operand) (t : TypeId)
    (ho : o.op = .call { callee := .builtin .append, args := #[s, x], argTypes := #[t, t] })
    (base : Nat) (e : TypeId) (i : TypeInfo) (z : Value) (ht : P.underlying t = some (.slice e)) (hi : P.info? e = some i) (hz : i.zero = some z)
    (hsize : i.size = 1) (hby : i.bytes = 1) (hzs : z.cells.size = 1)
    (v : Value) (n : Nat) (xs : List Value) (hs : a.eval s = v) (hown : w.ownsRow base e 1 v n xs)
    (ao : Option Addr) (m c : Nat) (news : List Value) (hx : a.eval x = .slice ao m c) (hl : news.length = m * 1) (hnone : ao = none → m = 0 ∧ c = 0) (hnews : ∀ ad, ao = some ad → ∀ j u, news[j]? = some u → w.cell? (ad.add j) = some u) (h1 : ∀ u ∈ news, u.oneCell' = true)
    (h63 : n + m ≤ maxLen) (hbytes : (n + m) * 1 ≤ 140737488355328) (hbase : base ≤ w.heap.size)
    (h : ∀ v' w', w'.ownsRow base e 1 v' (n + m) (xs ++ news) → w.grownBy w' v.ownBlock → wpList P ops Q rest (a.put o.dst v') w') : wpList P ops Q (o :: rest) a w := by
  refine BigFrame.wpList_want hw fun K hK' => ?_
  cases ao with
  | some ad => exact wp_append_own w s x t ho base e i z 1 1 ht hi hz hsize hby hzs (by decide) v n xs hs hown ad m c news hx hl (hnews ad rfl) h1 h63 hbytes hbase (fun v' w' h2 h3 _ => hK' _ _ (h v' w' h2 h3))
  | none =>
    obtain ⟨rfl, rfl⟩ := hnone rfl
    have hn0 : news = [] := List.eq_nil_of_length_eq_zero (by simpa using hl)
    subst hn0
    have hrun := run_append_owned_none (P := P) w base t o.type e i 1 ht hi _ n xs hown
    unfold Oper.wp
    simp [execOp, ho, resolve, invoke, builtin, hs, hx, hrun, Result.andThen]
    exact hK' _ _ (by simpa using h v w (by simpa using hown) (World.grownBy.refl _ _))
/-- Pieces of bytes, as they lie in a world. -/
def Pcs (W : World) (v : Value) (ps : List (List Int)) : Prop := ∃ ao cap, v = .slice ao ps.length cap ∧ ps.length ≤ 9223372036854775807 ∧ ∀ i, i < ps.length → ∃ b off u uc, ao = some ⟨b, off, none⟩ ∧ b < W.heap.size ∧ W.cell? ⟨b, off + i, none⟩ = some (.slice u (ps.getD i []).length uc) ∧ Bys W (.slice u (ps.getD i []).length uc) (ps.getD i []) ∧ (u = none → uc = 0)
/-- Bools, as they lie in a world. -/
def Bls (W : World) (v : Value) (qs : List Bool) : Prop := ∃ ao cap, v = .slice ao qs.length cap ∧ qs.length ≤ 9223372036854775807 ∧ ∀ i, i < qs.length → ∃ b off, ao = some ⟨b, off, none⟩ ∧ b < W.heap.size ∧ W.cell? ⟨b, off + i, none⟩ = some (.bool (qs.getD i false))
def flat (ps : List (List Int)) (k : Nat) : List Int := (ps.take k).flatten
theorem flat_next (ps : List (List Int)) (k : Nat) (hk : k < ps.length) : flat ps (k + 1) = flat ps k ++ ps.getD k [] := by
  unfold flat
  rw [List.take_add_one, List.flatten_append, List.getElem?_eq_getElem hk, List.getD_eq_getElem?_getD, List.getElem?_eq_getElem hk]
  simp
theorem flat_all (ps : List (List Int)) : flat ps ps.length = ps.flatten := by unfold flat; rw [List.take_length]
theorem flat_len (ps : List (List Int)) (k : Nat) : (flat ps k).length ≤ ps.flatten.length := by
  have h := congrArg List.flatten (List.take_append_drop k ps)
  rw [List.flatten_append] at h
  have := congrArg List.length h
  rw [List.length_append] at this
  unfold flat
  omega
theorem nilN (w : World) : BysN w (.slice none 0 0) [] := ⟨⟨none, 0, rfl, by decide, fun j hj => by simp at hj, by simp⟩, by decide, fun a l c h _ => by cases h; rfl⟩
set_option maxRecDepth 100000 in
set_option maxHeartbeats 8000000 in
theorem pieces_any (ps : List (List Int)) (qs : List Bool) (w : World) (vp vq : Value) (hP : Pcs w vp ps) (hQ : Bls w vq qs) (hsz : ps.flatten.length ≤ 4194304) : Calls Try.prog 7 #[vp, vq] w fun e w' => e = .returned (.bool true) ∧ Below w.heap.size w w' := by
  obtain ⟨pao, pcap, rfl, hpl, hpc⟩ := hP
  obtain ⟨qao, qcap, rfl, hql, hqc⟩ := hQ
  have hfl := flat_len ps
  have hfn := flat_next ps
  have hfa := flat_all ps
  have hpz : ∀ k, k < ps.length → ∀ z ∈ ps.getD k [], 0 ≤ z ∧ z < 256 := fun k hk => by
    obtain ⟨_, _, _, _, _, _, _, ⟨_, _, _, _, _, h⟩, _⟩ := hpc k hk
    exact h
  have hpn : ∀ k, k < ps.length → (ps.getD k []).length ≤ 4194304 := fun k hk => by
    have h1 := hfl (k + 1)
    rw [hfn k hk, List.length_append] at h1
    omega
  obtain ⟨i0, hi, hz0, hz1, hz2⟩ := info8
  obtain ⟨E, eE⟩ : ∃ E : List Int, E = [] := ⟨[], rfl⟩
  have heq0 := eqSum E
  have cA0 := a_sum E
  have cR0 := r_sum E
  generalize enp : ps.length = np at *
  generalize enq : qs.length = nq at *
  go_enter Try.func7, Try.ntmps7
  go_wp2_with (fail)
  refine (a_new w).mono ?_
  rintro e_ w1 ⟨gH, hgH, rfl, rH, hw⟩
  rw [← eE] at rH
  replace eE := hide eE
  generalize eg : w.heap.size = n0 at *
  have hN : BysN w1 (.slice none 0 0) E := by rw [eE.out]; exact nilN w1
  go_wp2_with (fail)
  refine (cA0 w1 (.slice none 0 0) hN.1 (fun a l c h => by cases h; exact Nat.le_refl _) (by rw [eE.out]; simp)).mono ?_
  rintro e_ w2 ⟨rfl, hb⟩
  have lH := lt_of_row rH
  replace rH := keep hb rH
  replace hw := hw.trans (hb.mono (by omega))
  clear hb hN
  have hN : BysN w2 (.slice none 0 0) E := by rw [eE.out]; exact nilN w2
  go_wp2_with (fail)
  refine (cR0 w2 (.slice none 0 0) hN).mono ?_
  rintro e_ w3 ⟨rfl, hb⟩
  have lH2 := lt_of_row rH
  replace rH := keep hb rH
  replace hw := hw.trans (hb.mono (by omega))
  clear hb hN cA0 cR0
  have lH3 := lt_of_row rH
  have hown := own_empty w3
  have hba : Below w3.heap.size w3 (w3.alloc (.cells #[] 5)) := (Below.refl _ _).alloc (Nat.le_refl _) _
  replace rH := keep hba rH
  replace hw := hw.trans (hba.mono (by omega))
  have hBs := hba.size
  clear hba
  go_wp2
  clear heq0
  rw [eE.out] at rH
  generalize w3.alloc (.cells #[] 5) = w4 at *
  generalize w3.heap.size = B at *
  go_loopw [6, 7] (fun x i wr => ∃ k : Nat, k ≤ np ∧ i = .int .i64 k ∧ wr.heap[gH]? = some (.cells (hst (flat ps k)) 65 (0, 0)) ∧ wr.ownsRow B 5 1 x (flat ps k).length ((flat ps k).map (Value.int .u8)) ∧ (∀ z ∈ flat ps k, 0 ≤ z ∧ z < 256) ∧ B ≤ wr.heap.size ∧ Below n0 w wr) (fun _ i _ => np - (intOf i).toNat)
  case atStart => exact ⟨0, by omega, rfl, rH, hown, (by intro z h; cases h), hBs, hw⟩
  case round =>
    clear rH hown hw hBs
    obtain ⟨k, hk, rfl, rH, hown, hfz, hBs, hw⟩ := hrel
    obtain ⟨xo, xcap, rfl⟩ := slen_own hown
    have hfk := hfl k
    by_cases hlt : k < np
    · have hd : decide ((k : Int) < (np : Int)) = true := by simp; omega
      obtain ⟨pb, poff, u, uc, rfl, hpb, hpcell, hBk, hun⟩ := hpc k hlt
      have hPz := hpz k hlt
      have hPn := hpn k hlt
      have hF1 := hfn k hlt
      have hfk1 := hfl (k + 1)
      rw [hF1, List.length_append] at hfk1
      have hBk' : ∀ W, Below n0 w W → Bys W (.slice u (ps.getD k []).length uc) (ps.getD k []) := fun W h => hBk.keep (by rw [eg]; exact h)
      have hpc' : ∀ W, Below n0 w W → W.cell? ⟨pb, poff + k, none⟩ = some (.slice u (ps.getD k []).length uc) := fun W h => (h.cell (p := ⟨pb, poff + k, none⟩) hpb).trans hpcell
      have hqc' : ∀ W, Below n0 w W → ∀ i, i < nq → ∃ b off, qao = some ⟨b, off, none⟩ ∧ W.cell? ⟨b, off + i, none⟩ = some (.bool (qs.getD i false)) := fun W h i hi => by
        obtain ⟨b, off, e, h1, h2⟩ := hqc i hi
        exact ⟨b, off, e, (h.cell (p := ⟨b, off + i, none⟩) h1).trans h2⟩
      clear hpc hpz hpn hfn hfl hBk hpcell hqc
      replace hF1 := hide hF1
      replace hBk' := hide hBk'
      replace hpc' := hide hpc'
      replace hqc' := hide hqc'
      generalize ps.getD k [] = P at *
      generalize flat ps k = Fk at *
      -- the piece, copied and written
      have hnone8 := bys_none2 (hBk'.out wr hw) hun
      have hlw := lt_of_row rH
      have hcA := hpc'.out (wr.alloc (.cells #[] 5)) (hw.alloc (by omega) _)
      have hba : Below wr.heap.size wr (wr.alloc (.cells #[] 5)) := (Below.refl _ _).alloc (Nat.le_refl _) _
      have hcell_ := bys_cells2 ((hBk'.out wr hw).keep hba)
      have hnone_ := hnone8
      have hoe := own_empty wr
      have hbase_ := hba.size
      go_wp2_with (at_builtin; refine wpList_append_own_any _ rfl (.tmp 24) (.tmp 28) 22 rfl wr.heap.size 5 i0 (.int .u8 0) Try.underlying22 hi hz0 hz1 hz2 rfl _ 0 _ rfl hoe u P.length uc (P.map (Value.int .u8)) rfl (by rw [List.length_map]; omega) hnone_ hcell_ (ints_one .u8 _) (by unfold maxLen; omega) (by omega) hbase_ ?_)
      intro v1 w5 own1 hgr
      try simp only [List.nil_append, Nat.zero_add] at own1
      replace hgr : (wr.alloc (.cells #[] 5)).grownBy w5 (some wr.heap.size) := hgr
      have hb : Below wr.heap.size wr w5 := hba.grown hgr hba.size (fun k h => by injection h with h; omega)
      clear hba hcell_ hnone_ hoe hbase_ hgr

      clear hcA
      replace rH := keep hb rH
      have own5 := own_keep hown hb
      have hs5 := hb.size
      replace hw := hw.trans (hb.mono (by omega))
      clear hb hown
      obtain ⟨ao1, cap1, rfl⟩ := slen_own own1
      have cW := a_write Fk P gH w5 _ rH (Bys.of_own own1 (by omega) hPz) (fun a l c h hl => by cases h; have := (own1.lt a.block rfl).1; omega) (own_cap own1) hfz (by omega)
      go_wp2_with (fail)
      refine cW.mono ?_
      rintro e_ w6 ⟨rfl, rH6, hgr⟩
      have own6 := own5.kept hgr (.inr (by intro e; have := (own5.lt gH e).1; omega))
      have hs6 := hgr.size
      replace hw := hw.grown hgr (by omega) (fun k h => by injection h with h; omega)
      clear cW rH hgr own1 own5
      -- the whole
      have hcB := hpc'.out w6 hw
      have hcell_ := bys_cells2 (hBk'.out w6 hw)
      have hnone_ := hnone8
      have hbase_ : B ≤ w6.heap.size := by omega
      go_wp2_with (at_builtin; refine wpList_append_own_any _ rfl (.tmp 31) (.tmp 35) 22 rfl B 5 i0 (.int .u8 0) Try.underlying22 hi hz0 hz1 hz2 rfl _ Fk.length _ rfl own6 u P.length uc (P.map (Value.int .u8)) rfl (by rw [List.length_map]; omega) hnone_ hcell_ (ints_one .u8 _) (by unfold maxLen; omega) (by omega) hbase_ ?_)

      intro x7 w7 own7 hgr
      have lH6 := lt_of_row rH6
      have rH : w7.heap[gH]? = some (.cells (hst (Fk ++ P)) 65 (0, 0)) := (hgr.block gH lH6 (by intro e; have := (own6.lt gH e.symm).1; omega)).trans rH6
      have hs7 := hgr.size
      replace hw := hw.grown hgr (by omega) (fun k h => by have := (own6.lt k h).1; omega)
      have hB7 : B ≤ w7.heap.size := by omega
      clear hcB hcell_ hnone_ hbase_ hgr own6 rH6
      obtain ⟨xo7, xc7, rfl⟩ := slen_own own7
      by_cases hq1 : k < nq
      · have hdq : decide ((k : Int) < (nq : Int)) = true := by simp; omega
        obtain ⟨qb, qoff, rfl, hqcell⟩ := hqc'.out w7 hw k hq1
        generalize qs.getD k false = ask at *
        cases ask
        · go_wp2
          refine ⟨⟨k + 1, by omega, by go_num, by rw [hF1.out]; exact rH, by rw [hF1.out, List.length_append, List.map_append]; exact own7, by rw [hF1.out]; exact both_bd hfz hPz, hB7, hw⟩, ?_⟩
          simp [intOf]; omega
        · have cS := a_hsum (Fk ++ P) gH w7 rH (both_bd hfz hPz) (by rw [List.length_append]; omega)
          have heq := eqSum (Fk ++ P)
          rw [← List.map_append] at own7
          have hFl : (Fk ++ P).length = Fk.length + P.length := List.length_append
          go_wp2_with (fail)
          refine cS.mono ?_
          rintro e_ w8 ⟨rfl, hb⟩
          replace rH := keep hb rH
          replace own7 := own_keep own7 hb
          have hs8 := hb.size
          replace hw := hw.trans (hb.mono (by omega))
          replace hB7 : B ≤ w8.heap.size := by omega
          clear hb cS
          have hBx := Bys.of_own own7 (by omega) (both_bd hfz hPz)
          have hnx := bys_none2 hBx (own_nil own7 _ _ _ rfl)
          have hba : Below w8.heap.size w8 (w8.alloc (.cells #[] 5)) := (Below.refl _ _).alloc (Nat.le_refl _) _
          have hcell_ := bys_cells2 ((hBx).keep hba)
          have hnone_ := hnx
          have hoe := own_empty w8
          have hbase_ := hba.size
          go_wp2_with (at_builtin; refine wpList_append_own_want _ rfl (.tmp 50) (.tmp 51) 22 rfl w8.heap.size 5 i0 (.int .u8 0) Try.underlying22 hi hz0 hz1 hz2 rfl _ 0 _ rfl hoe xo7 (Fk.length + P.length) xc7 ((Fk ++ P).map (Value.int .u8)) rfl (by rw [List.length_map]; omega) hnone_ hcell_ (ints_one .u8 _) (by unfold maxLen; omega) (by omega) hbase_ ?_)
          intro v9 w9 own9 hgr
          try simp only [List.nil_append, Nat.zero_add] at own9
          replace hgr : (w8.alloc (.cells #[] 5)).grownBy w9 (some w8.heap.size) := hgr
          have hb : Below w8.heap.size w8 w9 := hba.grown hgr hba.size (fun k h => by injection h with h; omega)
          clear hba hcell_ hnone_ hoe hbase_ hgr

          replace rH := keep hb rH
          replace own7 := own_keep own7 hb
          have hs9 := hb.size
          replace hw := hw.trans (hb.mono (by omega))
          replace hB7 : B ≤ w9.heap.size := by omega
          clear hb hBx hnx
          try rw [← List.map_append] at own9
          obtain ⟨ao9, cap9, rfl⟩ := slen_own own9
          have cS2 := a_sum (Fk ++ P) w9 _ (Bys.of_own own9 (by omega) (both_bd hfz hPz)) (own_cap own9) (by omega)
          go_wp2_with (fail)
          refine cS2.mono ?_
          rintro e_ wa ⟨rfl, hb⟩
          replace rH := keep hb rH
          replace own7 := own_keep own7 hb
          have hsa := hb.size
          replace hw := hw.trans (hb.mono (by omega))
          replace hB7 : B ≤ wa.heap.size := by omega
          clear hb cS2 own9
          rw [List.map_append] at own7
          go_wp2
          refine ⟨⟨k + 1, by omega, by go_num, by rw [hF1.out]; exact rH, by rw [hF1.out, List.length_append, List.map_append]; exact own7, by rw [hF1.out]; exact both_bd hfz hPz, hB7, hw⟩, ?_⟩
          simp [intOf]; omega
      · have hdq : decide ((k : Int) < (nq : Int)) = false := by simp; omega
        go_wp2
        refine ⟨⟨k + 1, by omega, by go_num, by rw [hF1.out]; exact rH, by rw [hF1.out, List.length_append, List.map_append]; exact own7, by rw [hF1.out]; exact both_bd hfz hPz, hB7, hw⟩, ?_⟩
        simp [intOf]; omega
    · obtain rfl : k = np := by omega
      have hd : decide ((k : Int) < (k : Int)) = false := by simp
      generalize flat ps k = Fk at *
      have heq := eqSum Fk
      clear hpc hpz hpn hfn hfl hqc hfa
      have cS := a_hsum Fk gH wr rH hfz (by omega)
      go_wp2_with (fail)
      refine cS.mono ?_
      rintro e_ w8 ⟨rfl, hb⟩
      have lw := lt_of_row rH
      replace rH := keep hb rH
      replace hown := own_keep hown hb
      have hs8 := hb.size
      replace hw := hw.trans (hb.mono (by omega))
      clear hb cS
      have cS2 := a_sum Fk w8 _ (Bys.of_own hown (by omega) hfz) (own_cap hown) (by omega)
      go_wp2_with (fail)
      refine cS2.mono ?_
      rintro e_ w9 ⟨rfl, hb⟩
      replace rH := keep hb rH
      replace hw := hw.trans (hb.mono (by omega))
      clear hb cS2
      go_wp2_with (fail)
      refine (a_size Fk gH w9 rH).mono ?_
      rintro e_ wa ⟨rfl, hb⟩
      replace hw := hw.trans (hb.mono (by have := lt_of_row rH; omega))
      clear hb
      go_wp2
      go_ret
      exact ⟨rfl, by rw [eg]; exact hw⟩

end Go.Proofs.Ytelildhjkknaiaa.Wi


namespace Go.Proofs.Ytelildhjkknaiaa.Wi
open Go Go.ChangeShapes Go.WideShapes Go.ChangeAt Go.RowKit Go.Deep

/-! Pieces and bools, out of the data. -/
theorem cellsB8 : Try.prog.cellsOf 5 = 1 := by kernel_rfl
theorem cellsSl : Try.prog.cellsOf 22 = 1 := by kernel_rfl
theorem cellsBo : Try.prog.cellsOf 4 = 1 := by kernel_rfl
theorem blk_of_cell {w : World} {b o : Nat} {v : Value} (h : w.cell? ⟨b, o, none⟩ = some v) : b < w.heap.size := by
  rcases Nat.lt_or_ge b w.heap.size with q | q
  · exact q
  · simp [World.cell?, Array.getElem?_eq_none q] at h
/-- One list of bytes. -/
theorem bytes_of_trod {H : Type} {enc : TypeId × Value → H} {W : World} {m : Nat} {v : Value} {x : DataW H × List MemPlace} (hf : DataW.trod enc Try.prog W 0 (fun _ => true) true m 22 [v] = some x) :
    ∃ bs : List Int, ∃ u uc, v = .slice u bs.length uc ∧ Bys W (.slice u bs.length uc) bs ∧ (u = none → uc = 0) ∧ bs.length ≤ uc ∧ bs.length ≤ Rows.uptoBulk x.1 := by
  rcases open_ints Try.underlying22 Try.underlying5 cellsB8 hf with ⟨hcs, hx⟩ | ⟨a, len, cap, zs, hcs, _, hl, hm, hz, hx, hcell, hwz⟩
  · injection hcs with hv _
    subst hv
    exact ⟨[], none, 0, rfl, ⟨none, 0, rfl, by decide, fun j hj => by simp at hj, by simp⟩, fun _ => rfl, Nat.le_refl _, Nat.zero_le _⟩
  · injection hcs with hv _
    subst hv
    subst hx
    simp only [if_true] at hz
    have hb := bulk_slice (lits (H := H) .u8 (zs.take len)) (lits .u8 (zs.drop len))
    simp only [lits, List.length_map] at hb
    have hlen : (zs.take len).length = len := by rw [List.length_take]; omega
    simp only [maxLen] at hm
    refine ⟨zs.take len, some a, cap, by rw [hlen], ?_, (fun h => by cases h), by omega, by simp only [lits]; omega⟩
    refine ⟨some a, cap, rfl, by rw [hlen]; omega, fun j hj => ?_, fun z h => u8_of_wf (hwz z (List.mem_of_mem_take h))⟩
    rw [hlen] at hj
    have hc := hcell j (by omega)
    obtain ⟨bb, off, spot⟩ := a
    have hspot : spot = none := by simpa [Addr.add] using World.cell?_spot (hcell 0 (by omega))
    subst hspot
    rw [addr_add] at hc
    refine ⟨bb, off, rfl, blk_of_cell hc, ?_⟩
    rw [hc, List.getD_eq_getElem?_getD, List.getD_eq_getElem?_getD, List.getElem?_take_of_lt hj]
theorem flat_bulk {H : Type} (PS : Nat → List Int) (D : Nat → DataW H) : ∀ l : List Nat, (∀ i ∈ l, (PS i).length ≤ Rows.uptoBulk (D i)) → ((l.map PS).flatten).length ≤ Rows.uptoBulkAll (l.map D)
  | [], _ => by simp [Rows.uptoBulkAll]
  | i :: r, h => by
    have h1 := h i (by simp)
    have h2 := flat_bulk PS D r (fun j hj => h j (by simp [hj]))
    simp only [List.map_cons, List.flatten_cons, List.length_append, Rows.uptoBulkAll]
    omega
theorem range_getD {α : Type} (f : Nat → α) (d : α) (n i : Nat) (h : i < n) : ((List.range n).map f).getD i d = f i := by
  rw [List.getD_eq_getElem?_getD, List.getElem?_map, List.getElem?_range h]
  rfl
theorem pcs_of_trod {H : Type} {enc : TypeId × Value → H} {W : World} {m : Nat} {v : Value} {x : DataW H × List MemPlace} (hf : DataW.trod enc Try.prog W 0 (fun _ => true) true m 50 [v] = some x) :
    ∃ ps : List (List Int), Pcs W v ps ∧ ps.flatten.length ≤ Rows.uptoBulk x.1 := by
  rcases open_slice1 Try.underlying50 cellsSl hf with ⟨hcs, hx⟩ | ⟨a, len, cap, m, n, V, D, Pl, hcs, _, hl, hm, hmm, hx, hel⟩
  · injection hcs with hv _
    subst hv
    exact ⟨[], ⟨none, 0, rfl, by decide, fun i hi => by simp at hi⟩, Nat.zero_le _⟩
  · injection hcs with hv _
    subst hv
    subst hx
    simp only [if_true] at hmm
    subst hmm
    obtain ⟨PS, hPS⟩ := choose_lt (α := List Int) (p := fun i bs => ∃ u uc, V i = .slice u bs.length uc ∧ Bys W (.slice u bs.length uc) bs ∧ (u = none → uc = 0) ∧ bs.length ≤ Rows.uptoBulk (D i)) (n := len) (fun i hi => by
      obtain ⟨bs, u, uc, h1, h2, h3, _, h5⟩ := bytes_of_trod (hel i (by omega)).2
      exact ⟨bs, u, uc, h1, h2, h3, h5⟩)
    have hb := bulk_elems ((List.range len).map D) ((List.range (m - len)).map fun j => D (len + j))
    have hfb := flat_bulk PS D (List.range len) (fun i hi => by
      obtain ⟨_, _, _, _, _, h⟩ := hPS i (List.mem_range.1 hi)
      exact h)
    simp only [maxLen] at hm
    refine ⟨(List.range len).map PS, ⟨some a, _, by simp; rfl, by simp; omega, fun i hi => ?_⟩, by show _ ≤ Rows.uptoBulk (DataW.slice _ _); omega⟩
    have hi' : i < len := by simpa using hi
    obtain ⟨u, uc, h1, h2, h3, _⟩ := hPS i hi'
    have hc := (hel i (by omega)).1
    obtain ⟨bb, off, spot⟩ := a
    have hspot : spot = none := by simpa [Addr.add] using World.cell?_spot (hel 0 (by omega)).1
    subst hspot
    rw [addr_add, h1] at hc
    rw [range_getD PS [] len i hi']
    exact ⟨bb, off, u, uc, rfl, blk_of_cell hc, hc, h2, h3⟩
theorem bls_of_trod {H : Type} {enc : TypeId × Value → H} {W : World} {m : Nat} {v : Value} {x : DataW H × List MemPlace} (hf : DataW.trod enc Try.prog W 0 (fun _ => true) true m 51 [v] = some x) :
    ∃ qs : List Bool, Bls W v qs := by
  rcases open_slice1 Try.underlying51 cellsBo hf with ⟨hcs, hx⟩ | ⟨a, len, cap, m, n, V, D, Pl, hcs, _, hl, hm, hmm, hx, hel⟩
  · injection hcs with hv _
    subst hv
    exact ⟨[], ⟨none, 0, rfl, by decide, fun i hi => by simp at hi⟩⟩
  · injection hcs with hv _
    subst hv
    simp only [if_true] at hmm
    subst hmm
    obtain ⟨Q, hQ⟩ := choose_lt (α := Bool) (p := fun i b => V i = .bool b) (n := len) (fun i hi => by
      obtain ⟨b, h1, _⟩ := DataW.trod_bool Try.underlying4 (hel i (by omega)).2
      injection h1 with h1 _
      exact ⟨b, h1⟩)
    simp only [maxLen] at hm
    refine ⟨(List.range len).map Q, ⟨some a, _, by simp; rfl, by simp; omega, fun i hi => ?_⟩⟩
    have hi' : i < len := by simpa using hi
    have hc := (hel i (by omega)).1
    obtain ⟨bb, off, spot⟩ := a
    have hspot : spot = none := by simpa [Addr.add] using World.cell?_spot (hel 0 (by omega)).1
    subst hspot
    rw [addr_add, hQ i hi'] at hc
    rw [range_getD Q false len i hi']
    exact ⟨bb, off, rfl, blk_of_cell hc, hc⟩
end Go.Proofs.Ytelildhjkknaiaa.Wi

namespace Go.Proofs.Ytelildhjkknaiaa.Wi
open Go Go.ChangeShapes Go.WideShapes Go.ChangeAt Go.RowKit Go.Deep

/-! HashAll: the places, and the steps out of the data. -/
def atv (i : Int) : Nat := (i % 3).toNat
theorem atv_lt (i : Int) : atv i < 3 := by unfold atv; omega
theorem tmod3 (i : Int) : i.tmod 3 = if 0 ≤ i then i % 3 else -(-i % 3) := by
  split
  · rename_i h; exact Int.tmod_eq_emod_of_nonneg h
  · rename_i h
    rw [show i = -(-i) by omega, Int.neg_tmod, Int.tmod_eq_emod_of_nonneg (by omega)]
    omega
theorem at_nn {i : Int} (h : 0 ≤ i.tmod 3) : i.tmod 3 = (atv i : Int) := by
  have ht := tmod3 i
  unfold atv
  generalize i.tmod 3 = q at *
  split at ht <;> omega
theorem at_ng {i : Int} (h : i.tmod 3 < 0) : wrap64 (i.tmod 3 + 3) = (atv i : Int) := by
  have ht := tmod3 i
  unfold atv
  generalize i.tmod 3 = q at *
  unfold wrap64
  split at ht <;> omega
theorem at_walk (i : Int) : Gives 23 #[.int .i64 i] (.int .i64 (atv i)) := by
  intro w
  have hn := @at_nn i
  have hg := @at_ng i
  generalize (atv i : Int) = v at *
  go_enter Try.func23, Try.ntmps23
  go_wp2
  · have h := hg (by assumption)
    go_ret
    rw [h]
    exact ⟨rfl, Below.refl _ _⟩
  · have h := hn (by assumption)
    go_ret
    rw [h]
    exact ⟨rfl, Below.refl _ _⟩
/-- A step, as its four cells say it. -/
def ActOf (W : World) (cs : List Value) (P : List Int) : Prop := ∃ (K A B : Int) (u : Option Addr) (uc : Nat), cs = [.int .i64 K, .int .i64 A, .int .i64 B, .slice u P.length uc] ∧ Bys W (.slice u P.length uc) P ∧ (u = none → uc = 0) ∧ P.length ≤ uc
theorem cellsInt : Try.prog.cellsOf 3 = 1 := by kernel_rfl
theorem cellsAct : Try.prog.cellsOf 45 = 4 := by kernel_rfl
theorem act_of_trod {H : Type} {enc : TypeId × Value → H} {W : World} {m : Nat} {cs : List Value} {x : DataW H × List MemPlace} (h : DataW.trod enc Try.prog W 0 (fun _ => true) true m 45 cs = some x) : ∃ P : List Int, ActOf W cs P ∧ P.length ≤ Rows.uptoBulk x.1 := by
  obtain ⟨xs, m, rfl, rfl, hlen, hxl, hf⟩ := DataW.trod_struct Try.underlying45 h
  rw [cellsAct] at hlen
  have g0 := hf 0 _ rfl; have g1 := hf 1 _ rfl; have g2 := hf 2 _ rfl; have g3 := hf 3 _ rfl
  clear hf h
  match cs, hlen, xs, hxl, g0, g1, g2, g3 with
  | [c0, c1, c2, c3], _, [x0, x1, x2, x3], _, g0, g1, g2, g3 =>
    obtain ⟨K, e0, _, _⟩ := DataW.trod_int Try.underlying3 g0
    obtain ⟨A, e1, _, _⟩ := DataW.trod_int Try.underlying3 g1
    obtain ⟨B, e2, _, _⟩ := DataW.trod_int Try.underlying3 g2
    have q0 : c0 = .int .i64 K := by
      have q : ([c0, c1, c2, c3].drop 0).take (Try.prog.cellsOf 3) = [.int .i64 K] := e0
      rw [cellsInt] at q
      simpa using q
    have q1 : c1 = .int .i64 A := by
      have q : ([c0, c1, c2, c3].drop 1).take (Try.prog.cellsOf 3) = [.int .i64 A] := e1
      rw [cellsInt] at q
      simpa using q
    have q2 : c2 = .int .i64 B := by
      have q : ([c0, c1, c2, c3].drop 2).take (Try.prog.cellsOf 3) = [.int .i64 B] := e2
      rw [cellsInt] at q
      simpa using q
    have q3 : DataW.trod enc Try.prog W 0 (fun _ => true) true m 22 [c3] = some x3 := by
      have q : DataW.trod enc Try.prog W 0 (fun _ => true) true m 22 (([c0, c1, c2, c3].drop 3).take (Try.prog.cellsOf 22)) = some x3 := g3
      rw [cellsSl] at q
      simpa using q
    obtain ⟨P, u, uc, h1, h2, h3, h4, h5⟩ := bytes_of_trod q3
    refine ⟨P, ⟨K, A, B, u, uc, by rw [q0, q1, q2, h1], h2, h3, h4⟩, ?_⟩
    have hb : Rows.uptoBulk x3.1 ≤ Rows.uptoBulk (DataW.agg (List.map (·.1) [x0, x1, x2, x3])) := by
      simp only [List.map_cons, List.map_nil, Rows.uptoBulk, Rows.uptoBulkAll]
      omega
    exact Nat.le_trans h5 hb
/-- Three pointers; three lists. -/
def prow (h : Nat → Nat) : Array Value := #[.pointer (some ⟨h 0, 0, none⟩), .pointer (some ⟨h 1, 0, none⟩), .pointer (some ⟨h 2, 0, none⟩)]
def srow (s : Nat → Value) : Array Value := #[s 0, s 1, s 2]
def upd {α : Type} (f : Nat → α) (i : Nat) (x : α) : Nat → α := fun j => if j = i then x else f j
theorem prow_get (h : Nat → Nat) (i : Nat) (hi : i < 3) : (prow h)[i]? = some (.pointer (some ⟨h i, 0, none⟩)) := by
  rcases (by omega : i = 0 ∨ i = 1 ∨ i = 2) with rfl | rfl | rfl <;> rfl
theorem srow_get (s : Nat → Value) (i : Nat) (hi : i < 3) : (srow s)[i]? = some (s i) := by
  rcases (by omega : i = 0 ∨ i = 1 ∨ i = 2) with rfl | rfl | rfl <;> rfl
theorem prow_set (h : Nat → Nat) (i g : Nat) (hi : i < 3) : (prow h).setIfInBounds i (.pointer (some ⟨g, 0, none⟩)) = prow (upd h i g) := by
  rcases (by omega : i = 0 ∨ i = 1 ∨ i = 2) with rfl | rfl | rfl <;> rfl
theorem srow_set (s : Nat → Value) (i : Nat) (v : Value) (hi : i < 3) : (srow s).setIfInBounds i v = srow (upd s i v) := by
  rcases (by omega : i = 0 ∨ i = 1 ∨ i = 2) with rfl | rfl | rfl <;> rfl
theorem upd_same {α : Type} (f : Nat → α) (i : Nat) (x : α) : upd f i x i = x := if_pos rfl
theorem upd_other {α : Type} (f : Nat → α) {i j : Nat} (x : α) (h : j ≠ i) : upd f i x j = f j := if_neg h
end Go.Proofs.Ytelildhjkknaiaa.Wi

namespace Go.Proofs.Ytelildhjkknaiaa.Wi
open Go Go.ChangeShapes Go.WideShapes Go.ChangeAt Go.RowKit Go.Deep

/-- Steps, as they lie in a world. -/
def Acs (W : World) (v : Value) (ps : List (List Int)) : Prop := ∃ ao cap, v = .slice ao ps.length cap ∧ ps.length ≤ 9223372036854775807 ∧ ∀ i, i < ps.length → ∃ b off cs, ao = some ⟨b, off, none⟩ ∧ b < W.heap.size ∧ W.rangeAt b (off + i * 4) cs ∧ ActOf W cs (ps.getD i [])
theorem acs_of_trod {H : Type} {enc : TypeId × Value → H} {W : World} {m : Nat} {v : Value} {x : DataW H × List MemPlace} (hf : DataW.trod enc Try.prog W 0 (fun _ => true) true m 38 [v] = some x) :
    ∃ ps : List (List Int), Acs W v ps ∧ ps.flatten.length ≤ Rows.uptoBulk x.1 := by
  rcases open_slice Try.underlying38 hf with ⟨hcs, hx⟩ | ⟨a, len, cap, m, n, D, Pl, hcs, _, hl, hm, hmm, hx, hel⟩
  · injection hcs with hv _
    subst hv
    exact ⟨[], ⟨none, 0, rfl, by decide, fun i hi => by simp at hi⟩, Nat.zero_le _⟩
  · injection hcs with hv _
    subst hv
    subst hx
    simp only [if_true] at hmm
    subst hmm
    rw [cellsAct] at hel
    obtain ⟨PS, hPS⟩ := choose_lt (α := List Int) (p := fun i P => ∃ cs', W.cells? 0 (a.add (i * 4)) 4 = some cs' ∧ ActOf W cs' P ∧ P.length ≤ Rows.uptoBulk (D i)) (n := len) (fun i hi => by
      obtain ⟨cs', h1, h2⟩ := hel i (by omega)
      obtain ⟨P, h3, h4⟩ := act_of_trod h2
      exact ⟨P, cs', h1, h3, h4⟩)
    have hb := bulk_elems ((List.range len).map D) ((List.range (m - len)).map fun j => D (len + j))
    have hfb := flat_bulk PS D (List.range len) (fun i hi => by
      obtain ⟨_, _, _, h⟩ := hPS i (List.mem_range.1 hi)
      exact h)
    simp only [maxLen] at hm
    refine ⟨(List.range len).map PS, ⟨some a, _, by simp; rfl, by simp; omega, fun i hi => ?_⟩, by show _ ≤ Rows.uptoBulk (DataW.slice _ _); omega⟩
    have hi' : i < len := by simpa using hi
    obtain ⟨cs', h1, h2, _⟩ := hPS i hi'
    obtain ⟨_, hln, hc⟩ := World.cells?_some h1
    obtain ⟨bb, off, spot⟩ := a
    have hspot : spot = none := by
      obtain ⟨cs0, h0, _⟩ := hel 0 (by omega)
      obtain ⟨_, hl0, hc0⟩ := World.cells?_some h0
      have := hc0 0 (by omega)
      rw [List.getElem?_eq_getElem (by omega)] at this
      simpa [Addr.add] using World.cell?_spot this
    subst hspot
    rw [range_getD PS [] len i hi']
    have hr : W.rangeAt bb (off + i * 4) cs' := by
      intro j v hv
      have hj : j < 4 := by have := (List.getElem?_eq_some_iff.1 hv).1; omega
      have := hc j hj
      rw [addr_add, addr_add, hv] at this
      exact this
    refine ⟨bb, off, cs', rfl, ?_, hr, h2⟩
    have h0 := hr 0 _ (List.getElem?_eq_getElem (by omega))
    exact blk_of_cell h0
/-- The state: three hashes, what came to each (c: by the hash, d: by the law's own list); all blocks below N. -/
def Inv (N : Nat) (w W : World) (gA gC : Nat) (h : Nat → Nat) (s : Nat → Value) (c d : Nat → List Int) : Prop :=
  W.heap[gA]? = some (.cells (prow h) 41 (0, 0)) ∧ W.heap[gC]? = some (.cells (srow s) 42 (0, 0)) ∧ (gA ≠ gC ∧ w.heap.size ≤ gA ∧ w.heap.size ≤ gC ∧ gA < N ∧ gC < N ∧ N ≤ W.heap.size) ∧
  (∀ i, i < 3 → W.heap[h i]? = some (.cells (hst (c i)) 65 (0, 0)) ∧ w.heap.size ≤ h i ∧ h i < N ∧ h i ≠ gA ∧ h i ≠ gC ∧ (∀ z ∈ c i, 0 ≤ z ∧ z < 256)) ∧
  (∀ i j, i < 3 → j < 3 → i ≠ j → h i ≠ h j) ∧
  (∀ i, i < 3 → ∃ ao cap, s i = .slice ao (d i).length cap ∧ Bys W (.slice ao (d i).length cap) (d i) ∧ (ao = none → cap = 0) ∧ (∀ a, ao = some a → 0 < (d i).length → a.block < N ∧ a.block ≠ gA ∧ a.block ≠ gC ∧ ∀ j, j < 3 → a.block ≠ h j))
theorem Bys.move {W W' : World} {ao : Option Addr} {cap : Nat} {bs : List Int} (hB : Bys W (.slice ao bs.length cap) bs) (hk : ∀ a, ao = some a → 0 < bs.length → W'.heap[a.block]? = W.heap[a.block]?) : Bys W' (.slice ao bs.length cap) bs := by
  obtain ⟨ao', cap', e, hl, hc, hz⟩ := hB
  cases e
  refine ⟨ao, cap, rfl, hl, fun j hj => ?_, hz⟩
  obtain ⟨b, off, rfl, h1, h2⟩ := hc j hj
  have he := hk _ rfl (by omega)
  refine ⟨b, off, rfl, ?_, (World.cell?_of_block (a := ⟨b, off + j, none⟩) he).trans h2⟩
  have : W.heap[b]? ≠ none := by rw [Array.getElem?_eq_getElem h1]; simp
  rw [← he] at this
  rcases Nat.lt_or_ge b W'.heap.size with q | q
  · exact q
  · exact absurd (Array.getElem?_eq_none q) this
theorem Inv.move {N : Nat} {w W W' : World} {gA gC : Nat} {h : Nat → Nat} {s : Nat → Value} {c d : Nat → List Int} (hI : Inv N w W gA gC h s c d) (hN : N ≤ W'.heap.size) (hk : ∀ k, k < N → W'.heap[k]? = W.heap[k]?) : Inv N w W' gA gC h s c d := by
  obtain ⟨h1, h2, ⟨h3, h4, h5, h6, h7, h8⟩, h9, h10, h11⟩ := hI
  refine ⟨(hk _ h6).trans h1, (hk _ h7).trans h2, ⟨h3, h4, h5, h6, h7, hN⟩, fun i hi => ?_, h10, fun i hi => ?_⟩
  · obtain ⟨q1, q2, q3, q4⟩ := h9 i hi
    exact ⟨(hk _ q3).trans q1, q2, q3, q4⟩
  · obtain ⟨ao, cap, q1, q2, q3, q4⟩ := h11 i hi
    exact ⟨ao, cap, q1, Bys.move q2 (fun a ha hl => hk _ (q4 a ha hl).1), q3, q4⟩
theorem Inv.below {N : Nat} {w W W' : World} {gA gC : Nat} {h : Nat → Nat} {s : Nat → Value} {c d : Nat → List Int} (hI : Inv N w W gA gC h s c d) (hb : Below N W W') : Inv N w W' gA gC h s c d :=
  hI.move (Nat.le_trans hI.2.2.1.2.2.2.2.2 hb.size) (fun k hk => hb.block k hk)
theorem Inv.raise {N N' : Nat} {w W : World} {gA gC : Nat} {h : Nat → Nat} {s : Nat → Value} {c d : Nat → List Int} (hI : Inv N w W gA gC h s c d) (hN : N ≤ N') (hs : N' ≤ W.heap.size) : Inv N' w W gA gC h s c d := by
  obtain ⟨h1, h2, ⟨h3, h4, h5, h6, h7, h8⟩, h9, h10, h11⟩ := hI
  refine ⟨h1, h2, ⟨h3, h4, h5, by omega, by omega, hs⟩, fun i hi => ?_, h10, fun i hi => ?_⟩
  · obtain ⟨q1, q2, q3, q4⟩ := h9 i hi
    exact ⟨q1, q2, by omega, q4⟩
  · obtain ⟨ao, cap, q1, q2, q3, q4⟩ := h11 i hi
    refine ⟨ao, cap, q1, q2, q3, fun a ha hl => ?_⟩
    obtain ⟨r1, r2⟩ := q4 a ha hl
    exact ⟨by omega, r2⟩
/-- One hash has turned. -/
theorem Inv.write {N : Nat} {w W W' : World} {gA gC : Nat} {h : Nat → Nat} {s : Nat → Value} {c d : Nat → List Int} (hI : Inv N w W gA gC h s c d) {o : Nat} (ho : o < 3) {b : List Int} (hg : W.grownBy W' (some (h o))) (hn : W'.heap[h o]? = some (.cells (hst b) 65 (0, 0))) (hz : ∀ z ∈ b, 0 ≤ z ∧ z < 256) : Inv N w W' gA gC h s (upd c o b) d := by
  obtain ⟨h1, h2, ⟨h3, h4, h5, h6, h7, h8⟩, h9, h10, h11⟩ := hI
  have hk : ∀ k, k < N → k ≠ h o → W'.heap[k]? = W.heap[k]? := fun k hk hne => hg.block k (by omega) (by intro e; injection e with e; exact hne e)
  obtain ⟨_, _, _, t4, t5, _⟩ := h9 o ho
  refine ⟨(hk _ h6 (Ne.symm t4)).trans h1, (hk _ h7 (Ne.symm t5)).trans h2, ⟨h3, h4, h5, h6, h7, Nat.le_trans h8 hg.size⟩, fun i hi => ?_, h10, fun i hi => ?_⟩
  · obtain ⟨q1, q2, q3, q4, q5, q6⟩ := h9 i hi
    by_cases e : i = o
    · subst e; rw [upd_same]; exact ⟨hn, q2, q3, q4, q5, hz⟩
    · rw [upd_other _ _ e]; exact ⟨(hk _ q3 (h10 i o hi ho e)).trans q1, q2, q3, q4, q5, q6⟩
  · obtain ⟨ao, cap, q1, q2, q3, q4⟩ := h11 i hi
    exact ⟨ao, cap, q1, Bys.move q2 (fun a ha hl => hk _ (q4 a ha hl).1 ((q4 a ha hl).2.2.2 o ho)), q3, q4⟩
/-- Another hash in the place of one. -/
theorem Inv.setH {N N' : Nat} {w W W' : World} {gA gC : Nat} {h : Nat → Nat} {s : Nat → Value} {c d : Nat → List Int} (hI : Inv N w W gA gC h s c d) {o g : Nat} (ho : o < 3) {b : List Int} (hk : ∀ k, k < N → k ≠ gA → W'.heap[k]? = W.heap[k]?) (hA : W'.heap[gA]? = some (.cells (prow (upd h o g)) 41 (0, 0))) (hn : W'.heap[g]? = some (.cells (hst b) 65 (0, 0))) (hz : ∀ z ∈ b, 0 ≤ z ∧ z < 256) (hg : N ≤ g) (hg' : g < N') (hN : N' ≤ W'.heap.size) : Inv N' w W' gA gC (upd h o g) s (upd c o b) d := by
  obtain ⟨h1, h2, ⟨h3, h4, h5, h6, h7, h8⟩, h9, h10, h11⟩ := hI
  refine ⟨hA, (hk _ h7 (Ne.symm h3)).trans h2, ⟨h3, h4, h5, by omega, by omega, hN⟩, fun i hi => ?_, fun i j hi hj hne => ?_, fun i hi => ?_⟩
  · by_cases e : i = o
    · subst e; rw [upd_same, upd_same]; exact ⟨hn, by omega, hg', by omega, by omega, hz⟩
    · obtain ⟨q1, q2, q3, q4, q5, q6⟩ := h9 i hi
      rw [upd_other _ _ e, upd_other _ _ e]; exact ⟨(hk _ q3 q4).trans q1, q2, by omega, q4, q5, q6⟩
  · by_cases e : i = o
    · subst e
      rw [upd_same, upd_other _ _ (Ne.symm hne)]
      have := (h9 j hj).2.2.1
      omega
    · rw [upd_other _ _ e]
      by_cases e2 : j = o
      · subst e2
        rw [upd_same]
        have := (h9 i hi).2.2.1
        omega
      · rw [upd_other _ _ e2]; exact h10 i j hi hj hne
  · obtain ⟨ao, cap, q1, q2, q3, q4⟩ := h11 i hi
    refine ⟨ao, cap, q1, Bys.move q2 (fun a ha hl => hk _ (q4 a ha hl).1 (q4 a ha hl).2.1), q3, fun a ha hl => ?_⟩
    obtain ⟨r1, r2, r3, r4⟩ := q4 a ha hl
    refine ⟨by omega, r2, r3, fun j hj => ?_⟩
    by_cases e : j = o
    · subst e; rw [upd_same]; omega
    · rw [upd_other _ _ e]; exact r4 j hj
/-- Another list in the place of one. -/
theorem Inv.setS {N N' : Nat} {w W W' : World} {gA gC : Nat} {h : Nat → Nat} {s : Nat → Value} {c d : Nat → List Int} (hI : Inv N w W gA gC h s c d) {o : Nat} (ho : o < 3) {b : List Int} {ao : Option Addr} {cap : Nat} (hk : ∀ k, k < N → k ≠ gC → W'.heap[k]? = W.heap[k]?) (hC : W'.heap[gC]? = some (.cells (srow (upd s o (.slice ao b.length cap))) 42 (0, 0)))
    (hB : Bys W' (.slice ao b.length cap) b) (hn : ao = none → cap = 0) (hb : ∀ a, ao = some a → 0 < b.length → a.block < N' ∧ a.block ≠ gA ∧ a.block ≠ gC ∧ ∀ j, j < 3 → a.block ≠ h j) (hNN : N ≤ N') (hN : N' ≤ W'.heap.size) : Inv N' w W' gA gC h (upd s o (.slice ao b.length cap)) c (upd d o b) := by
  obtain ⟨h1, h2, ⟨h3, h4, h5, h6, h7, h8⟩, h9, h10, h11⟩ := hI
  refine ⟨(hk _ h6 h3).trans h1, hC, ⟨h3, h4, h5, by omega, by omega, hN⟩, fun i hi => ?_, h10, fun i hi => ?_⟩
  · obtain ⟨q1, q2, q3, q4, q5, q6⟩ := h9 i hi
    exact ⟨(hk _ q3 q5).trans q1, q2, by omega, q4, q5, q6⟩
  · by_cases e : i = o
    · subst e; rw [upd_same, upd_same]; exact ⟨ao, cap, rfl, hB, hn, hb⟩
    · obtain ⟨ao2, cap2, q1, q2, q3, q4⟩ := h11 i hi
      rw [upd_other _ _ e, upd_other _ _ e]
      refine ⟨ao2, cap2, q1, Bys.move q2 (fun a ha hl => hk _ (q4 a ha hl).1 (q4 a ha hl).2.2.1), q3, fun a ha hl => ?_⟩
      obtain ⟨r1, r2⟩ := q4 a ha hl
      exact ⟨by omega, r2⟩
end Go.Proofs.Ytelildhjkknaiaa.Wi

namespace Go.Proofs.Ytelildhjkknaiaa.Wi
open Go Go.ChangeShapes Go.WideShapes Go.ChangeAt Go.RowKit Go.Deep

theorem size_setCell1 (W : World) (a : Addr) (v : Value) : (W.setCell a v).heap.size = W.heap.size := by simp [World.setCell]
theorem upd_le {c : Nat → List Int} {o n : Nat} {b : List Int} (hc : ∀ i, i < 3 → (c i).length ≤ n) (hb : b.length ≤ n) : ∀ i, i < 3 → (upd c o b i).length ≤ n := fun i hi => by
  by_cases e : i = o
  · subst e; rw [upd_same]; exact hb
  · rw [upd_other _ _ e]; exact hc i hi
theorem Inv.putS {N N' : Nat} {w W : World} {gA gC : Nat} {h : Nat → Nat} {s : Nat → Value} {c d : Nat → List Int} (hI : Inv N w W gA gC h s c d) {o : Nat} (ho : o < 3) {b : List Int} {ao : Option Addr} {cap : Nat} (hB : Bys W (.slice ao b.length cap) b) (hn : ao = none → cap = 0) (hb : ∀ a, ao = some a → 0 < b.length → a.block < N' ∧ a.block ≠ gA ∧ a.block ≠ gC ∧ ∀ j, j < 3 → a.block ≠ h j) (hNN : N ≤ N') (hN : N' ≤ W.heap.size) :
    Inv N' w (W.setCell ⟨gC, o, none⟩ (.slice ao b.length cap)) gA gC h (upd s o (.slice ao b.length cap)) c (upd d o b) := by
  refine hI.setS ho (fun k _ hne => heap_setCell_other _ _ _ _ hne) ?_ (Bys.move hB (fun a ha hl => heap_setCell_other _ _ _ _ (hb a ha hl).2.2.1)) hn hb hNN (by rw [size_setCell1]; exact hN)
  rw [heap_setCell_same W gC o _ _ _ hI.2.1, srow_set _ _ _ ho]
theorem Inv.nilS {N : Nat} {w W : World} {gA gC : Nat} {h : Nat → Nat} {s : Nat → Value} {c d : Nat → List Int} (hI : Inv N w W gA gC h s c d) {o : Nat} (ho : o < 3) {E : List Int} (eE : E = []) : Inv N w (W.setCell ⟨gC, o, none⟩ (.slice none 0 0)) gA gC h (upd s o (.slice none 0 0)) c (upd d o E) := by
  subst eE
  exact hI.putS (b := []) (ao := none) (cap := 0) ho ⟨none, 0, rfl, (by show ([] : List Int).length ≤ _; decide), fun j hj => by simp at hj, by simp⟩ (fun _ => rfl) (fun a ha _ => by cases ha) (Nat.le_refl _) hI.2.2.1.2.2.2.2.2
theorem Inv.copyS {N : Nat} {w W : World} {gA gC : Nat} {h : Nat → Nat} {s : Nat → Value} {c d : Nat → List Int} (hI : Inv N w W gA gC h s c d) {o t : Nat} (ho : o < 3) (ht : t < 3) {ao : Option Addr} {cap : Nat} (es : s t = .slice ao (d t).length cap) : Inv N w (W.setCell ⟨gC, o, none⟩ (.slice ao (d t).length cap)) gA gC h (upd s o (.slice ao (d t).length cap)) c (upd d o (d t)) := by
  obtain ⟨ao', cap', e, h1, h2, h3⟩ := hI.2.2.2.2.2 t ht
  rw [es] at e
  cases e
  exact hI.putS ho h1 h2 h3 (Nat.le_refl _) hI.2.2.1.2.2.2.2.2
theorem Inv.putH {N N' : Nat} {w W : World} {gA gC : Nat} {h : Nat → Nat} {s : Nat → Value} {c d : Nat → List Int} (hI : Inv N w W gA gC h s c d) {o g : Nat} (ho : o < 3) {b : List Int} (hn : W.heap[g]? = some (.cells (hst b) 65 (0, 0))) (hz : ∀ z ∈ b, 0 ≤ z ∧ z < 256) (hg : N ≤ g) (hg' : g < N') (hN : N' ≤ W.heap.size) :
    Inv N' w (W.setCell ⟨gA, o, none⟩ (.pointer (some ⟨g, 0, none⟩))) gA gC (upd h o g) s (upd c o b) d := by
  have hA := hI.2.2.1.2.2.2.1
  refine hI.setH ho (fun k _ hne => heap_setCell_other _ _ _ _ hne) ?_ ((heap_setCell_other _ _ _ _ (show g ≠ gA by omega)).trans hn) hz hg hg' (by rw [size_setCell1]; exact hN)
  rw [heap_setCell_same W gA o _ _ _ hI.1, prow_set _ _ _ ho]
end Go.Proofs.Ytelildhjkknaiaa.Wi

namespace Go.Proofs.Ytelildhjkknaiaa.Wi
open Go Go.RowKit Go.Sort
attribute [local go_sem] setCell_drewN alloc_drewN

theorem wpList_load_rng {P : Program} {ops : Array Oper} {rest : List Oper} {o : Oper} {a : Act} {w : World} {Q : Exit → Act → World → Prop} (hw : Region.wanted o (yielded ops a.tmps) = true) (ty : TypeId) (x : Operand) (ho : o.op = .load ty x)
    (g off : Nat) (hx : a.eval x = .pointer (some ⟨g, off, none⟩)) (cs : List Value) (d : TypeDesc) (hr : w.rangeAt g off cs) (hu : P.underlying ty = some d) (hd : d.isRow = true) (hi : (P.info? ty).map (·.size) = some cs.length)
    (h : wpList P ops Q rest (a.put o.dst (.agg cs.toArray)) w) : wpList P ops Q (o :: rest) a w :=
  BigFrame.wpList_want hw fun _ hK => wp_load_mid ty x ho g off hx cs d hr hu hd hi (hK _ _ h)
theorem step_append_any {P : Program} (w : World) {ops : Array Oper} {o : Oper} {a : Act} {K : Act → World → Prop} {Q : Exit → Act → World → Prop} {E : Prop} (hgd : o.guard = none) (s x : Operand) (t : TypeId)
    (ho : o.op = .call { callee := .builtin .append, args := #[s, x], argTypes := #[t, t] })
    (base : Nat) (e : TypeId) (i : TypeInfo) (z : Value) (ht : P.underlying t = some (.slice e)) (hi : P.info? e = some i) (hz : i.zero = some z)
    (hsize : i.size = 1) (hby : i.bytes = 1) (hzs : z.cells.size = 1)
    (v : Value) (n : Nat) (xs : List Value) (hs : a.eval s = v) (hown : w.ownsRow base e 1 v n xs)
    (ao : Option Addr) (m c : Nat) (news : List Value) (hx : a.eval x = .slice ao m c) (hl : news.length = m * 1) (hnone : ao = none → m = 0 ∧ c = 0) (hnews : ∀ ad, ao = some ad → ∀ j u, news[j]? = some u → w.cell? (ad.add j) = some u) (h1 : ∀ u ∈ news, u.oneCell' = true)
    (h63 : n + m ≤ maxLen) (hbytes : (n + m) * 1 ≤ 140737488355328) (hbase : base ≤ w.heap.size)
    (h : ∀ v' w', w'.ownsRow base e 1 v' (n + m) (xs ++ news) → w.grownBy w' v.ownBlock → K (a.put o.dst v') w') : if Region.wanted o (yielded ops a.tmps) = true then Oper.wp P o a w K Q else E := by
  have hw : Region.wanted o (yielded ops a.tmps) = true := by simp [Region.wanted, hgd]
  rw [if_pos hw]
  cases ao with
  | some ad => exact wp_append_own w s x t ho base e i z 1 1 ht hi hz hsize hby hzs (by decide) v n xs hs hown ad m c news hx hl (hnews ad rfl) h1 h63 hbytes hbase (fun v' w' h2 h3 _ => h v' w' h2 h3)
  | none =>
    obtain ⟨rfl, rfl⟩ := hnone rfl
    have hn0 : news = [] := List.eq_nil_of_length_eq_zero (by simpa using hl)
    subst hn0
    have hrun := run_append_owned_none (P := P) w base t o.type e i 1 ht hi _ n xs hown
    unfold Oper.wp
    simp [execOp, ho, resolve, invoke, builtin, hs, hx, hrun, Result.andThen]
    have h_ := h v w (by simpa using hown) (World.grownBy.refl _ _)
    exact h_
theorem own_form {W : World} {b n : Nat} {v : Value} {xs : List Value} (h : W.ownsRow b 5 1 v n xs) : ∃ ao cap, v = .slice ao n cap ∧ (ao = none → cap = 0) ∧ (∀ a, ao = some a → b ≤ a.block ∧ a.block < W.heap.size) := by
  obtain ⟨h1, ⟨rfl, rfl⟩ | ⟨g, cap, cur, rfl, hb, hg, hn, hm, hs, ht⟩⟩ := h
  · exact ⟨none, 0, rfl, fun _ => rfl, fun a h => by cases h⟩
  · exact ⟨_, cap, rfl, (fun h => by cases h), (fun a h => by cases h; exact ⟨hb, lt_of_row hg⟩)⟩
theorem own_block {b n cap : Nat} {ao : Option Addr} (h : ∀ a, ao = some a → b ≤ a.block) : ∀ k, (Value.slice ao n cap).ownBlock = some k → b ≤ k := by
  intro k hk
  cases ao with
  | none => cases hk
  | some a =>
    have : a.block = k := by simpa [Value.ownBlock] using hk
    rw [← this]; exact h a rfl
def h3 (a b c : Nat) : Nat → Nat := fun i => if i = 0 then a else if i = 1 then b else c
theorem h3_cases (a b c : Nat) (i : Nat) (hi : i < 3) : h3 a b c i = a ∨ h3 a b c i = b ∨ h3 a b c i = c := by
  rcases (by omega : i = 0 ∨ i = 1 ∨ i = 2) with rfl | rfl | rfl
  · exact .inl rfl
  · exact .inr (.inl rfl)
  · exact .inr (.inr rfl)
theorem inv_first {w W : World} {g0 g1 g2 gA : Nat} {E : List Int} (eE : E = []) (hw : w.heap.size ≤ g0) (l0 : g0 < g1) (l1 : g1 < g2) (l2 : g2 < gA) (hA : W.heap[gA]? = some (.cells #[.pointer (some ⟨g0, 0, none⟩), .pointer (some ⟨g1, 0, none⟩), .pointer (some ⟨g2, 0, none⟩)] 41 (0, 0))) (hC : W.heap[gA + 1]? = some (.cells #[.slice none 0 0, .slice none 0 0, .slice none 0 0] 42 (0, 0)))
    (r0 : W.heap[g0]? = some (.cells (hst E) 65 (0, 0))) (r1 : W.heap[g1]? = some (.cells (hst E) 65 (0, 0))) (r2 : W.heap[g2]? = some (.cells (hst E) 65 (0, 0))) : Inv (gA + 2) w W gA (gA + 1) (h3 g0 g1 g2) (fun _ => .slice none 0 0) (fun _ => E) (fun _ => E) := by
  have lA := lt_of_row hC
  refine ⟨hA, hC, ⟨by omega, by omega, by omega, by omega, by omega, by omega⟩, fun i hi => ?_, fun i j hi hj hne => ?_, fun i _ => ?_⟩
  · have hz : ∀ z ∈ E, 0 ≤ z ∧ z < 256 := by rw [eE]; intro z h; cases h
    rcases (by omega : i = 0 ∨ i = 1 ∨ i = 2) with rfl | rfl | rfl
    · exact ⟨r0, by show w.heap.size ≤ g0; omega, by show g0 < _; omega, by show g0 ≠ _; omega, by show g0 ≠ _; omega, hz⟩
    · exact ⟨r1, by show w.heap.size ≤ g1; omega, by show g1 < _; omega, by show g1 ≠ _; omega, by show g1 ≠ _; omega, hz⟩
    · exact ⟨r2, by show w.heap.size ≤ g2; omega, by show g2 < _; omega, by show g2 ≠ _; omega, by show g2 ≠ _; omega, hz⟩
  · rcases (by omega : i = 0 ∨ i = 1 ∨ i = 2) with rfl | rfl | rfl <;> rcases (by omega : j = 0 ∨ j = 1 ∨ j = 2) with rfl | rfl | rfl <;> simp [h3] at hne ⊢ <;> omega
  · subst eE
    exact ⟨none, 0, rfl, ⟨none, 0, rfl, (by show ([] : List Int).length ≤ _; decide), fun j hj => by simp at hj, by simp⟩, fun _ => rfl, fun a ha _ => by cases ha⟩
set_option maxRecDepth 100000 in
set_option maxHeartbeats 16000000 in
theorem all_any (ps : List (List Int)) (w : World) (v : Value) (hP : Acs w v ps) (hsz : ps.flatten.length ≤ 4194304) : Calls Try.prog 6 #[v] w fun e w' => e = .returned (.bool true) ∧ Below w.heap.size w w' := by
  obtain ⟨pao, pcap, rfl, hpl, hpc⟩ := hP
  have hfl := flat_len ps
  have hfn := flat_next ps
  obtain ⟨i0, hi, hz0, hz1, hz2⟩ := info8
  obtain ⟨E, eE⟩ : ∃ E : List Int, E = [] := ⟨[], rfl⟩
  have heq0 := eqSum E
  have cR0 := r_sum E
  generalize enp : ps.length = np at *
  go_enter Try.func6, Try.ntmps6
  go_wp2_with (fail)
  refine (a_new w).mono ?_
  rintro e_ w1 ⟨g0, hg0, rfl, r0, hw⟩
  generalize eg : w.heap.size = n0 at *
  have l0 := lt_of_row r0
  go_wp2_with (fail)
  refine (a_new w1).mono ?_
  rintro e_ w2 ⟨g1, hg1, rfl, r1, hb⟩
  replace r0 := keep hb r0
  replace hw := hw.trans (hb.mono (by omega))
  clear hb
  have l1 := lt_of_row r1
  go_wp2_with (fail)
  refine (a_new w2).mono ?_
  rintro e_ w3 ⟨g2, hg2, rfl, r2, hb⟩
  replace r0 := keep hb r0
  replace r1 := keep hb r1
  replace hw := hw.trans (hb.mono (by omega))
  clear hb
  have l2 := lt_of_row r2
  rw [← eE] at r0 r1 r2
  go_wp2
  have hA := hp2_0 w3 (.cells #[.pointer (some ⟨g0, 0, none⟩), .pointer (some ⟨g1, 0, none⟩), .pointer (some ⟨g2, 0, none⟩)] 41) (.cells #[.slice none 0 0, .slice none 0 0, .slice none 0 0] 42)
  have hC := hp2_1 w3 (.cells #[.pointer (some ⟨g0, 0, none⟩), .pointer (some ⟨g1, 0, none⟩), .pointer (some ⟨g2, 0, none⟩)] 41) (.cells #[.slice none 0 0, .slice none 0 0, .slice none 0 0] 42)
  have hb : Below w3.heap.size w3 ((w3.alloc (.cells #[.pointer (some ⟨g0, 0, none⟩), .pointer (some ⟨g1, 0, none⟩), .pointer (some ⟨g2, 0, none⟩)] 41)).alloc (.cells #[.slice none 0 0, .slice none 0 0, .slice none 0 0] 42)) := ((Below.refl _ _).alloc (Nat.le_refl _) _).alloc (by simp) _
  have hI := inv_first (w := w) eE (by rw [eg]; exact hg0) (by omega) (by omega) l2 hA hC (keep hb r0) (keep hb r1) (keep hb r2)
  replace hw := hw.trans (hb.mono (by omega))
  clear hb hA hC r0 r1 r2
  replace eE := hide eE
  generalize ((w3.alloc (.cells #[.pointer (some ⟨g0, 0, none⟩), .pointer (some ⟨g1, 0, none⟩), .pointer (some ⟨g2, 0, none⟩)] 41)).alloc (.cells #[.slice none 0 0, .slice none 0 0, .slice none 0 0] 42)) = w4 at *
  generalize w3.heap.size = gA at *
  generalize h3 g0 g1 g2 = hh at *
  have hNil : ∀ W, BysN W (.slice none 0 0) E := fun W => by rw [eE.out]; exact nilN W
  replace hNil := hide hNil
  go_loopw [5] (fun i wr => ∃ k : Nat, k ≤ 3 ∧ i = .int .i64 k ∧ Inv (gA + 2) w wr gA (gA + 1) hh (fun _ => .slice none 0 0) (fun _ => E) (fun _ => E) ∧ Below n0 w wr) (fun i _ => 3 - (intOf i).toNat)
  case atStart => exact ⟨0, by omega, rfl, hI, hw⟩
  case round =>
    clear hI hw
    obtain ⟨k, hk, rfl, hI, hw⟩ := hrel
    by_cases hlt : k < 3
    · have hd : decide ((k : Int) < 3) = true := by simp; omega
      have hNW := hI.2.2.1.2.2.2.2.2
      have cA := cell_of hI.1 (prow_get hh k hlt)
      obtain ⟨q1, q2, q3, _⟩ := hI.2.2.2.1 k hlt
      have cS := a_hsum E (hh k) wr q1 (by rw [eE.out]; intro z h; cases h) (by rw [eE.out]; simp)
      go_wp2_with (fail)
      refine cS.mono ?_
      rintro e_ w5 ⟨rfl, hb⟩
      replace hI := hI.below (hb.mono hNW)
      replace hw := hw.trans (hb.mono (by omega))
      clear hb cS cA q1
      have hs5 := hI.2.2.1.2.2.2.2.2
      go_wp2_with (fail)
      refine (cR0 w5 _ (hNil.out w5)).mono ?_
      rintro e_ w6 ⟨rfl, hb⟩
      replace hI := hI.below (hb.mono hs5)
      replace hw := hw.trans (hb.mono (by omega))
      clear hb
      go_wp2
      refine ⟨⟨k + 1, by omega, by go_num, hI, hw⟩, ?_⟩
      simp [intOf]; omega
    · obtain rfl : k = 3 := by omega
      have hd : decide ((3 : Int) < 3) = false := by decide
      clear heq0 cR0
      go_wp2
      go_loopw [6] (fun i wr => ∃ (k N : Nat) (h : Nat → Nat) (t : Nat → Value) (c : Nat → List Int), k ≤ np ∧ i = .int .i64 k ∧ Inv N w wr gA (gA + 1) h t c c ∧ (∀ i, i < 3 → (c i).length ≤ (flat ps k).length) ∧ Below n0 w wr) (fun i _ => np - (intOf i).toNat)
      case atStart => exact ⟨0, _, _, _, _, by omega, rfl, hI, fun i _ => by rw [eE.out]; exact Nat.zero_le _, hw⟩
      case round =>
        clear hI hw hd
        obtain ⟨k, N, h, t, c, hk, rfl, hI, hcl, hw⟩ := hrel
        by_cases hlt : k < np
        · have hd : decide ((k : Int) < (np : Int)) = true := by simp; omega
          obtain ⟨ab, aoff, cs, rfl, hab, hrng, hact⟩ := hpc k hlt
          have hF1 := hfn k hlt
          have hfk1 := hfl (k + 1)
          rw [hF1, List.length_append] at hfk1
          obtain ⟨K, A, B, u, uc, rfl, hBp, hun, huc⟩ := hact
          have hPz : ∀ z ∈ ps.getD k [], 0 ≤ z ∧ z < 256 := by obtain ⟨_, _, _, _, _, h⟩ := hBp; exact h
          have hrng' : wr.rangeAt ab (aoff + k * 4) [.int .i64 K, .int .i64 A, .int .i64 B, .slice u (ps.getD k []).length uc] := fun j v hv => (hw.cell (p := ⟨ab, aoff + k * 4 + j, none⟩) hab).trans (hrng j v hv)
          have hBw : ∀ W, Below n0 w W → Bys W (.slice u (ps.getD k []).length uc) (ps.getD k []) := fun W h => hBp.keep (by rw [eg]; exact h)
          clear hrng hBp hpc hfn hfl
          replace hF1 := hide hF1
          replace hBw := hide hBw
          generalize ps.getD k [] = P at *
          generalize flat ps k = Fk at *
          have hNW := hI.2.2.1.2.2.2.2.2
          have hAN := hI.2.2.1.2.2.2.1
          have hinf : (Try.prog.info? 45).map (·.size) = some [Value.int .i64 K, .int .i64 A, .int .i64 B, .slice u P.length uc].length := by kernel_rfl
          go_wp2_with (first | (refine wpList_load_rng rfl 45 _ rfl ab (aoff + k * 4) rfl _ _ hrng' Try.underlying45 rfl hinf ?_) | fail)
          have rT := hp1_0 wr (.cells #[.int .i64 K, .int .i64 A, .int .i64 B, .slice u P.length uc] 45)
          have hb : Below wr.heap.size wr (wr.alloc (.cells #[.int .i64 K, .int .i64 A, .int .i64 B, .slice u P.length uc] 45)) := (Below.refl _ _).alloc (Nat.le_refl _) _
          replace hI := hI.below (hb.mono hNW)
          replace hw := hw.trans (hb.mono (by omega))
          clear hb hrng' hinf
          generalize wr.alloc (.cells #[.int .i64 K, .int .i64 A, .int .i64 B, .slice u P.length uc] 45) = w5 at *
          generalize wr.heap.size = gT at *
          have lT := lt_of_row rT
          have c1_ : w5.cell? ⟨gT, 1, none⟩ = some (.int .i64 A) := cell_of rT rfl
          have c2_ : w5.cell? ⟨gT, 2, none⟩ = some (.int .i64 B) := cell_of rT rfl
          have wA := at_walk A
          have wB := at_walk B
          have hon := atv_lt A
          have hot := atv_lt B
          generalize atv A = on at *
          generalize atv B = ot at *
          have k1 : ∀ p : Regrown, (grow (redrawn w5 p.d) p.os).cell? ⟨gT, 1, none⟩ = some (.int .i64 A) := fun p => cell_regrown (c1_) p.d p.os
          have k2 : ∀ p : Regrown, (grow (redrawn w5 p.d) p.os).cell? ⟨gT, 2, none⟩ = some (.int .i64 B) := fun p => cell_regrown (c2_) p.d p.os
          refine wp_region_quiet_below (by kernel_rfl) (by kernel_rfl) ?_
          go_big_quiet_step (fail)
          go_big_quiet_step (fail)
          go_big_quiet_step (exact wA.re)
          go_big_quiet_step (fail)
          go_big_quiet_step (fail)
          go_big_quiet_step (exact wB.re)
          go_big_quiet_step (fail)
          go_big_quiet_step (fail)
          refine wpQuiet_nil ?_
          rintro _ ⟨p, rfl⟩
          have hb := below_regrown w5 p.d p.os
          generalize grow (redrawn w5 p.d) p.os = w6 at *
          clear k1 k2
          replace rT := keep hb rT
          replace hI := hI.below (hb.mono (by omega))
          replace hw := hw.trans (hb.mono (by omega))
          clear hb

          have lT6 := lt_of_row rT
          have c0_ : w6.cell? ⟨gT, 0, none⟩ = some (.int .i64 K) := cell_of rT rfl
          have c3_ : w6.cell? ⟨gT, 3, none⟩ = some (.slice u P.length uc) := cell_of rT rfl
          have hN6 := hI.2.2.1.2.2.2.2.2
          have cAo := cell_of hI.1 (prow_get h on hon)
          have cAt := cell_of hI.1 (prow_get h ot hot)
          obtain ⟨q1, q2, q3, q4, q5, q6⟩ := hI.2.2.2.1 on hon
          obtain ⟨p1, p2, p3, p4, p5, p6⟩ := hI.2.2.2.1 ot hot
          obtain ⟨ao, ac, es, hBs, hsn, hsb⟩ := hI.2.2.2.2.2 on hon
          obtain ⟨to, tc, et, hBt, htn, htb⟩ := hI.2.2.2.2.2 ot hot
          have cCo := cell_of hI.2.1 (srow_get t on hon)
          have cCt := cell_of hI.2.1 (srow_get t ot hot)
          rw [es] at cCo
          rw [et] at cCt
          have hco := hcl on hon
          have hct := hcl ot hot
          have hcl' : ∀ i, i < 3 → (c i).length ≤ (Fk ++ P).length := fun i hi => by have := hcl i hi; rw [List.length_append]; omega
          clear c1_ c2_ wA wB
          rcases (by omega : K = 0 ∨ K = 1 ∨ K = 2 ∨ K = 3 ∨ K = 4 ∨ K = 5 ∨ ((K ≠ 0 ∧ K ≠ 1) ∧ (K ≠ 2 ∧ K ≠ 3) ∧ K ≠ 4 ∧ K ≠ 5)) with rfl | rfl | rfl | rfl | rfl | rfl | ⟨⟨z0, z1⟩, ⟨z2, z3⟩, z4, z5⟩
          · have cL := lent_walk P w6 (.slice u P.length uc) (hBw.out w6 hw) (by omega) (fun a l c_ h_ ha => by cases h_; exact hun ha)
            go_wp2_with (fail)
            refine cL.mono ?_
            rintro e_ w7 ⟨vl, rfl, gc, rfl, hgc, rc, hb⟩
            have hs7 := hb.size
            replace hI := hI.below (hb.mono hN6)
            replace hw := hw.trans (hb.mono (by omega))
            replace rT := keep hb rT
            clear cL hb cAo cAt cCo cCt q1 p1 hBs hBt c0_ c3_
            have lc := lt_of_row rc
            have hBc := Bys.of_prefix rc (by omega) hPz (P.length + 80)
            have cAo := cell_of hI.1 (prow_get h on hon)
            obtain ⟨q1, _⟩ := hI.2.2.2.1 on hon
            go_wp2_with (fail)
            refine (a_write (c on) P (h on) w7 _ q1 hBc (fun a l c_ h_ _ => by cases h_; show gc ≠ h on; omega) (fun a l c_ h_ => by cases h_; omega) q6 (by omega)).mono ?_
            rintro e_ w8 ⟨rfl, rN, hgr⟩
            have hs8 := hgr.size
            replace hI := hI.write hon hgr rN (fun z hz => (List.mem_append.1 hz).elim (q6 z) (hPz z))
            replace hw := hw.grown hgr (by omega) (fun k h => by injection h with h; omega)
            replace rc := (hgr.block gc (by omega) (by intro e; injection e with e; omega)).trans rc
            replace rT := (hgr.block gT (by omega) (by intro e; injection e with e; omega)).trans rT
            clear hgr rN hBc cAo q1
            have c3_ : w8.cell? ⟨gT, 3, none⟩ = some (.slice u P.length uc) := cell_of rT rfl
            go_wp2_with (fail)
            refine (kept_walk P gc w8 (.slice u P.length uc) (hBw.out w8 hw) (by omega) rc).mono ?_
            rintro e_ w9 ⟨rfl, hb⟩
            have hs9 := hb.size
            replace hI := hI.below (hb.mono (by omega))
            replace hw := hw.trans (hb.mono (by omega))
            replace rT := keep hb rT
            replace rc := keep hb rc
            clear hb c3_
            go_wp2_with (fail)
            refine (full_any gc P.length (P.length + 80) 9 _ w9 rc (by simp [irow_size, marks]) (by omega) (by unfold maxLen; omega) (by omega)).mono ?_
            rintro e_ w10 ⟨rfl, hgr⟩
            have hs10 := hgr.size
            replace hI := hI.below ((Below.refl N w9).grown hgr (by omega) (fun k h => by injection h with h; omega))
            replace hw := hw.grown hgr (by omega) (fun k h => by injection h with h; omega)
            replace rT := (hgr.block gT (by omega) (by intro e; injection e with e; omega)).trans rT
            clear hgr rc
            have hN10 := hI.2.2.1.2.2.2.2.2
            obtain ⟨ao, ac, es, hBs, hsn, hsb⟩ := hI.2.2.2.2.2 on hon
            have cCo := cell_of hI.2.1 (srow_get t on hon)
            rw [es] at cCo
            have c3_ : w10.cell? ⟨gT, 3, none⟩ = some (.slice u P.length uc) := cell_of rT rfl
            have hBP := hBw.out w10 hw
            go_wp2_with (fail)
            have hba : Below w10.heap.size w10 ((w10.alloc (.cells #[] 5)).drew) := (((Below.refl _ _).alloc (Nat.le_refl _) _)).drew
            have hoe := (own_empty w10).drew
            have hno1 := bys_none2 hBs hsn
            have hce1 := bys_cells2 (hBs.keep hba)
            have hno2 := bys_none2 hBP hun
            have hnT : gT ≠ w10.heap.size := by omega
            have hnC : gT ≠ gA + 1 := by have := hI.2.2.1.2.2.2.2.1; omega
            have hlo : (0 : Int) ≤ (on : Int) := Int.natCast_nonneg _
            have hli : (on : Int) < 3 := by omega
            have hnw := World.new_ne w10 ⟨gT, 3, none⟩ c3_
            have hnw2 := World.new_ne w10 ⟨gA + 1, on, none⟩ cCo
            have cF := row_frozen hI.2.1 on
            have hC1 : ¬ gA + 1 = w10.heap.size := by have := hI.2.2.1.2.2.2.2.1; omega
            have hC2 : (gA + 1 == w10.heap.size) = false := by rw [beq_eq_false_iff_ne]; exact hC1
            have cCA : (w10.alloc (.cells #[] 5)).cell? ⟨gA + 1, on, none⟩ = some (.slice ao (c on).length ac) := (hba.cell (p := ⟨gA + 1, on, none⟩) (by show gA + 1 < _; have := hI.2.2.1.2.2.2.2.1; omega)).trans cCo
            have cTA : (w10.alloc (.cells #[] 5)).cell? ⟨gT, 3, none⟩ = some (.slice u P.length uc) := (hba.cell (p := ⟨gT, 3, none⟩) (by show gT < _; omega)).trans c3_
            refine wp_region_noPanic ?_
            go_region_law
              ((first
                | (refine step_append_any _ (by rfl) _ _ _ (by rfl) w10.heap.size 5 i0 (.int .u8 0) Try.underlying22 hi hz0 hz1 hz2 rfl (.slice (some ⟨w10.heap.size, 0, none⟩) 0 0) 0 [] (by rfl) hoe ao (c on).length ac ((c on).map (Value.int .u8)) (by rfl) (by simp) hno1 hce1 (ints_one .u8 _) (by unfold maxLen; omega) (by omega) hba.size ?_
                   intro v1 w11 hown1 hgrow
                   simp only [Nat.zero_add, List.nil_append] at hown1
                   have hb11 : Below w10.heap.size w10 w11 := hba.grown hgrow hba.size (own_block (fun a h_ => by cases h_; exact Nat.le_refl _))
                   clear hgrow
                   obtain ⟨ao1, cap1, rfl, hnn1, hgg1⟩ := own_form hown1
                   have hT11 := cell_of (keep hb11 rT) (show #[Value.int .i64 0, .int .i64 A, .int .i64 B, .slice u P.length uc][3]? = some (.slice u P.length uc) from rfl)
                   have hce2 := bys_cells2 (hBP.keep hb11))
                | (refine step_append_any _ (by rfl) _ _ _ (by rfl) w10.heap.size 5 i0 (.int .u8 0) Try.underlying22 hi hz0 hz1 hz2 rfl _ (c on).length ((c on).map (Value.int .u8)) (by rfl) hown1 u P.length uc (P.map (Value.int .u8)) (by rfl) (by simp) hno2 hce2 (ints_one .u8 _) (by unfold maxLen; omega) (by omega) hb11.size ?_
                   intro v2 w12 hown2 hgrow
                   rw [← List.map_append, ← List.length_append] at hown2
                   have hb12 : Below w10.heap.size w10 w12 := hb11.grown hgrow hb11.size (own_block (fun a h_ => (hgg1 a h_).1))
                   clear hgrow
                   obtain ⟨ao2, cap2, rfl, hnn2, hgg2⟩ := own_form hown2
                   have hT12 := cell_of (keep hb12 rT) (show #[Value.int .i64 0, .int .i64 A, .int .i64 B, .slice u P.length uc][3]? = some (.slice u P.length uc) from rfl)
                   have hT13 : ∀ v, (w12.setCell ⟨gA + 1, on, none⟩ v).cell? ⟨gT, 3, none⟩ = some (.slice u P.length uc) := fun v => cell_of ((heap_setCell_other _ _ _ _ hnC).trans (keep hb12 rT)) (show #[Value.int .i64 0, .int .i64 A, .int .i64 B, .slice u P.length uc][3]? = some (.slice u P.length uc) from rfl)
                   have hI12 := hI.below (hb12.mono hN10)
                   have cC12 := cell_of hI12.2.1 (srow_get t on hon)
                   have cF12 := row_frozen hI12.2.1 on)))
            all_goals
              refine NoPanic.normal ?_
              have hs12 := hb12.size
              have hw12 := hw.trans (hb12.mono (by omega))
              have hB2 := Bys.of_own hown2 (by rw [List.length_append]; omega) (fun z hz => (List.mem_append.1 hz).elim (q6 z) (hPz z))
              have hI13 := hI12.putS (N' := w12.heap.size) hon hB2 hnn2 (fun a ha _ => by
                have h1_ := hgg2 a ha
                have h2_ := hI12.2.2.1.2.2.2.2.1
                exact ⟨h1_.2, by omega, by omega, fun j hj => by have h3_ := (hI12.2.2.2.1 j hj).2.2.1; omega⟩) (by omega) (Nat.le_refl _)
              have hw13 := hw12.setCell (show n0 ≤ (⟨gA + 1, on, none⟩ : Addr).block from (by show n0 ≤ gA + 1; omega)) (.slice ao2 (c on ++ P).length cap2)
              rw [List.length_append] at hI13 hw13
              go_wp2
              refine ⟨⟨k + 1, _, _, _, _, by omega, by go_num, hI13, by rw [hF1.out]; exact upd_le hcl' (by rw [List.length_append, List.length_append]; omega), hw13⟩, ?_⟩
              simp [intOf]; omega
          · have heq := eqSum (c on)
            go_wp2
            have k1 : ∀ p : Regrown, (grow (redrawn w6 p.d) p.os).cell? ⟨gA, on, none⟩ = some (.pointer (some ⟨h on, 0, none⟩)) := fun p => cell_regrown (cAo) p.d p.os
            have k2 : ∀ p : Regrown, (grow (redrawn w6 p.d) p.os).cell? ⟨gA + 1, on, none⟩ = some (.slice ao (c on).length ac) := fun p => cell_regrown (cCo) p.d p.os
            refine wp_region_quiet_below (by kernel_rfl) (by kernel_rfl) ?_
            go_big_quiet_step (fail)
            go_big_quiet_step (fail)
            go_big_quiet_step (fail)
            go_big_quiet_step (exact Calls.regrown_of (a_hsum (c on) (h on) _ (keep (below_regrown _ _ _) q1) q6 (by omega)))
            go_big_quiet_step (fail)
            go_big_quiet_step (fail)
            go_big_quiet_step (fail)
            go_big_quiet_step (exact Calls.regrown_of (r_sum (c on) _ _ ⟨hBs.keep (below_regrown _ _ _), by omega, fun a l c_ h_ ha => by cases h_; exact hsn ha⟩))
            go_big_quiet_step (fail)
            refine wpQuiet_nil ?_
            rintro _ ⟨p, rfl⟩
            have hb := below_regrown w6 p.d p.os
            generalize grow (redrawn w6 p.d) p.os = w7 at *
            clear k1 k2
            replace hI := hI.below (hb.mono (by omega))
            replace hw := hw.trans (hb.mono (by omega))
            clear hb

            go_wp2
            refine ⟨⟨k + 1, N, h, t, c, by omega, by go_num, hI, by rw [hF1.out]; exact hcl', hw⟩, ?_⟩
            simp [intOf]; omega
          · go_wp2
            have k1 : ∀ p : Regrown, (grow (redrawn w6 p.d) p.os).cell? ⟨gA, on, none⟩ = some (.pointer (some ⟨h on, 0, none⟩)) := fun p => cell_regrown (cAo) p.d p.os
            have k2 : ∀ p : Regrown, (grow (redrawn w6 p.d) p.os).cell? ⟨gA + 1, on, none⟩ = some (.slice ao (c on).length ac) := fun p => cell_regrown (cCo) p.d p.os
            refine wp_region_quiet_below (by kernel_rfl) (by kernel_rfl) ?_
            go_big_quiet_step (fail)
            go_big_quiet_step (fail)
            go_big_quiet_step (fail)
            go_big_quiet_step (exact Calls.regrown_of (a_size (c on) (h on) _ (keep (below_regrown _ _ _) q1)))
            go_big_quiet_step (fail)
            go_big_quiet_step (fail)
            go_big_quiet_step (fail)
            go_big_quiet_step (fail)
            go_big_quiet_step (fail)
            go_big_quiet_step (fail)
            refine wpQuiet_nil ?_
            rintro _ ⟨p, rfl⟩
            have hb := below_regrown w6 p.d p.os
            generalize grow (redrawn w6 p.d) p.os = w7 at *
            clear k1 k2
            replace hI := hI.below (hb.mono (by omega))
            replace hw := hw.trans (hb.mono (by omega))
            clear hb

            go_wp2
            refine ⟨⟨k + 1, N, h, t, c, by omega, by go_num, hI, by rw [hF1.out]; exact hcl', hw⟩, ?_⟩
            simp [intOf]; omega
          · go_wp2_with (fail)
            refine (a_reset (c on) (h on) w6 q1).mono ?_
            rintro e_ w7 ⟨rfl, rN, hgr⟩
            rw [← eE.out] at rN
            replace hI := hI.write hon hgr rN (by rw [eE.out]; intro z h; cases h)
            have hs7 := hgr.size
            replace hw := hw.grown hgr (by omega) (fun k h => by injection h with h; omega)
            have cC := cell_of hI.2.1 (srow_get t on hon)
            have cF := row_frozen hI.2.1 on
            have hI2 := hI.nilS hon eE.out
            have hw2 := hw.setCell (show n0 ≤ (⟨gA + 1, on, none⟩ : Addr).block from (by show n0 ≤ gA + 1; omega)) (.slice none 0 0)
            clear hI hgr rN
            go_wp2
            refine ⟨⟨k + 1, N, h, _, _, by omega, by go_num, hI2, by rw [hF1.out]; exact upd_le hcl' (by rw [eE.out]; exact Nat.zero_le _), hw2⟩, ?_⟩
            simp [intOf]; omega
          · go_wp2_with (fail)
            refine (a_clone (c ot) (h ot) w6 p1).mono ?_
            rintro e_ w7 ⟨rfl, rN, hb⟩
            replace hI := hI.below (hb.mono (by omega))
            replace hw := hw.trans (hb.mono (by omega))
            have hs7 := hb.size
            have lN := lt_of_row rN
            clear hb
            generalize w6.heap.size = gN at *
            have cA2 := cell_of hI.1 (prow_get h on hon)
            have fA2 := row_frozen hI.1 on
            have hI2 := hI.putH (N' := w7.heap.size) hon rN p6 (by omega) lN (Nat.le_refl _)
            have hw2 := hw.setCell (show n0 ≤ (⟨gA, on, none⟩ : Addr).block from (by show n0 ≤ gA; omega)) (.pointer (some ⟨gN, 0, none⟩))
            have cC2 := cell_of hI2.2.1 (srow_get t ot hot)
            rw [et] at cC2
            have cC3 := cell_of hI2.2.1 (srow_get t on hon)
            have cF3 := row_frozen hI2.2.1 on
            have hI3 := hI2.copyS hon hot et
            have hw3 := hw2.setCell (show n0 ≤ (⟨gA + 1, on, none⟩ : Addr).block from (by show n0 ≤ gA + 1; omega)) (.slice to (c ot).length tc)
            clear hI hI2 hw hw2 rN
            go_wp2
            refine ⟨⟨k + 1, _, _, _, _, by omega, by go_num, hI3, by rw [hF1.out]; exact upd_le hcl' (hcl' ot hot), hw3⟩, ?_⟩
            simp [intOf]; omega
          · go_wp2_with (fail)
            refine (a_new w6).mono ?_
            rintro e_ w7 ⟨gN, hgN, rfl, rN, hb⟩
            rw [← eE.out] at rN
            replace hI := hI.below (hb.mono (by omega))
            replace hw := hw.trans (hb.mono (by omega))
            have hs7 := hb.size
            have lN := lt_of_row rN
            clear hb
            have cA2 := cell_of hI.1 (prow_get h on hon)
            have fA2 := row_frozen hI.1 on
            have hI2 := hI.putH (N' := w7.heap.size) hon rN (by rw [eE.out]; intro z h; cases h) (by omega) lN (Nat.le_refl _)
            have hw2 := hw.setCell (show n0 ≤ (⟨gA, on, none⟩ : Addr).block from (by show n0 ≤ gA; omega)) (.pointer (some ⟨gN, 0, none⟩))
            have cC3 := cell_of hI2.2.1 (srow_get t on hon)
            have cF3 := row_frozen hI2.2.1 on
            have hI3 := hI2.nilS hon eE.out
            have cA3 := cell_of hI3.1 (prow_get (upd h on gN) on hon)
            rw [upd_same] at cA3
            have hw3 := hw2.setCell (show n0 ≤ (⟨gA + 1, on, none⟩ : Addr).block from (by show n0 ≤ gA + 1; omega)) (.slice none 0 0)
            clear hI hI2 hw hw2 rN
            go_wp2
            refine ⟨⟨k + 1, _, _, _, _, by omega, by go_num, hI3, by rw [hF1.out]; exact upd_le hcl' (by rw [eE.out]; exact Nat.zero_le _), hw3⟩, ?_⟩
            simp [intOf]; omega
          · have b0 : (K == 0) = false := by rw [beq_eq_false_iff_ne]; exact z0
            have b1 : (K == 1) = false := by rw [beq_eq_false_iff_ne]; exact z1
            have b2 : (K == 2) = false := by rw [beq_eq_false_iff_ne]; exact z2
            have b3 : (K == 3) = false := by rw [beq_eq_false_iff_ne]; exact z3
            have b4 : (K == 4) = false := by rw [beq_eq_false_iff_ne]; exact z4
            have b5 : (K == 5) = false := by rw [beq_eq_false_iff_ne]; exact z5
            go_wp2
            refine ⟨⟨k + 1, N, h, t, c, by omega, by go_num, hI, by rw [hF1.out]; exact hcl', hw⟩, ?_⟩
            simp [intOf]; omega
        · have ek : k = np := by omega
          have hd : decide ((k : Int) < (np : Int)) = false := by simp; omega
          have hfk := hfl k
          clear hpc hfn hfl hpl
          go_wp2
          go_loopw [13] (fun i wr => ∃ j : Nat, j ≤ 3 ∧ i = .int .i64 j ∧ Inv N w wr gA (gA + 1) h t c c ∧ Below n0 w wr) (fun i _ => 3 - (intOf i).toNat)
          case atStart => exact ⟨0, by omega, rfl, hI, hw⟩
          case round =>
            clear hI hw hd
            obtain ⟨j, hj3, rfl, hI, hw⟩ := hrel
            by_cases hj : j < 3
            · have hd : decide ((j : Int) < 3) = true := by simp; omega
              have hN6 := hI.2.2.1.2.2.2.2.2
              have hAN := hI.2.2.1.2.2.2.1
              have cAo := cell_of hI.1 (prow_get h j hj)
              obtain ⟨q1, q2, q3, q4, q5, q6⟩ := hI.2.2.2.1 j hj
              obtain ⟨ao, ac, es, hBs, hsn, hsb⟩ := hI.2.2.2.2.2 j hj
              have cCo := cell_of hI.2.1 (srow_get t j hj)
              rw [es] at cCo
              have hco := hcl j hj
              have heq := eqSum (c j)
              go_wp2
              have k1 : ∀ p : Regrown, (grow (redrawn wr p.d) p.os).cell? ⟨gA, j, none⟩ = some (.pointer (some ⟨h j, 0, none⟩)) := fun p => cell_regrown (cAo) p.d p.os
              have k2 : ∀ p : Regrown, (grow (redrawn wr p.d) p.os).cell? ⟨gA + 1, j, none⟩ = some (.slice ao (c j).length ac) := fun p => cell_regrown (cCo) p.d p.os
              refine wp_region_quiet_below (by kernel_rfl) (by kernel_rfl) ?_
              go_big_quiet_step (fail)
              go_big_quiet_step (fail)
              go_big_quiet_step (fail)
              go_big_quiet_step (exact Calls.regrown_of (a_hsum (c j) (h j) _ (keep (below_regrown _ _ _) q1) q6 (by omega)))
              go_big_quiet_step (fail)
              go_big_quiet_step (fail)
              go_big_quiet_step (fail)
              go_big_quiet_step (exact Calls.regrown_of (r_sum (c j) _ _ ⟨hBs.keep (below_regrown _ _ _), by omega, fun a l c_ h_ ha => by cases h_; exact hsn ha⟩))
              go_big_quiet_step (fail)
              go_big_quiet_step (fail)
              go_big_quiet_step (fail)
              go_big_quiet_step (fail)
              go_big_quiet_step (fail)
              go_big_quiet_step (exact Calls.regrown_of (a_size (c j) (h j) _ (keep (below_regrown _ _ _) q1)))
              go_big_quiet_step (fail)
              go_big_quiet_step (fail)
              go_big_quiet_step (fail)
              go_big_quiet_step (fail)
              go_big_quiet_step (fail)
              go_big_quiet_step (fail)
              go_big_quiet_step (fail)
              refine wpQuiet_nil ?_
              rintro _ ⟨p, rfl⟩
              have hb := below_regrown wr p.d p.os
              generalize grow (redrawn wr p.d) p.os = w7 at *
              clear k1 k2
              replace hI := hI.below (hb.mono (by omega))
              replace hw := hw.trans (hb.mono (by omega))
              clear hb

              go_wp2
              refine ⟨⟨j + 1, by omega, by go_num, hI, hw⟩, ?_⟩
              simp [intOf]; omega
            · obtain rfl : j = 3 := by omega
              have hd : decide ((3 : Int) < 3) = false := by decide
              go_wp2
              go_ret
              exact ⟨rfl, by rw [eg]; exact hw⟩

end Go.Proofs.Ytelildhjkknaiaa.Wi

