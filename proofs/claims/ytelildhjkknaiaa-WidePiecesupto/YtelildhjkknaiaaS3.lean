import Derived.Test.YtelildhjkknaiaaProg
import Derived.WalkKit
import Derived.WalkSpells
import Derived.WalkLawsBesides
import Derived.Lib.QuietBelow
import Derived.BigQuiet
import Derived.Test.YtelildhjkknaiaaS0
import Derived.Test.YtelildhjkknaiaaS2
import Derived.Deep.Cut
import Derived.ProofKit
import Derived.OpenShut
import Derived.ChangeSlices
import Derived.ChangeArms
import Derived.Deep.Slices
namespace Go.Proofs.Ytelildhjkknaiaa.Wi
open Go Go.RowKit Go.Sort
attribute [local go_sem] setCell_drewN alloc_drewN

theorem fol_concat (h a b : List Int) (q : Nat) (ha : a.length = 128 * q) : ∀ k, fol h (a ++ b) (q + k) = fol (fol h a q) b k
  | 0 => by rw [Nat.add_zero, fol_append h a b q (by omega)]; rfl
  | k + 1 => by
    rw [← Nat.add_assoc, fol, fol_concat h a b q ha k, fol]
    congr 1
    unfold chunk
    apply prq_congr
    intro j _ _
    rw [wat, wat, getD_append_ge a b _ (by omega)]
    congr 1
    omega
theorem bys_none2 {W : World} {ao : Option Addr} {m cap : Nat} {bs : List Int} (hB : Bys W (.slice ao m cap) bs) (hn : ao = none → cap = 0) : ao = none → m = 0 ∧ cap = 0 := by
  obtain ⟨ao', cap', e, _, hc, _⟩ := hB
  cases e
  intro h
  refine ⟨?_, hn h⟩
  rcases Nat.eq_zero_or_pos bs.length with e | e
  · exact e
  · obtain ⟨b, off, e', _⟩ := hc 0 e
    rw [h] at e'; cases e'
theorem bys_cells2 {W : World} {ao : Option Addr} {m cap : Nat} {bs : List Int} (hB : Bys W (.slice ao m cap) bs) : ∀ ad, ao = some ad → ∀ j u, (bs.map (Value.int .u8))[j]? = some u → W.cell? (ad.add j) = some u := by
  have e : m = bs.length := by obtain ⟨_, _, e, _⟩ := hB; cases e; rfl
  subst e
  exact bys_cells hB
theorem own_cap {W : World} {b n : Nat} {T : TypeId} {v : Value} {xs : List Value} (h : W.ownsRow b T 1 v n xs) : ∀ a l c, v = .slice a l c → l ≤ c := by
  intro a l c e
  obtain ⟨_, ⟨rfl, _⟩ | ⟨g, cap, cur, rfl, _, _, h3, _⟩⟩ := h
  · cases e; exact Nat.le_refl _
  · cases e; exact h3
theorem own_nil {W : World} {b n : Nat} {T : TypeId} {v : Value} {xs : List Value} (h : W.ownsRow b T 1 v n xs) : ∀ a l c, v = .slice a l c → a = none → c = 0 := by
  intro a l c e ha
  obtain ⟨_, ⟨rfl, _⟩ | ⟨g, cap, cur, rfl, _⟩⟩ := h
  · cases e; rfl
  · cases e; cases ha
theorem plen_fits (n e : Nat) (hn : n % 128 = 0) : (e + plen (n + e)) % 128 = 0 := by unfold plen; omega
theorem slice_to (ao : Option Addr) (len cap n : Nat) (h : n ≤ cap) (W : World) : (Instr.sliceAt 22 (.slice ao len cap) none (some (.int .i64 (n : Int))) none).run Try.prog W = .ok (.slice ao n cap) W := by
  rw [run_sliceAt_slice _ _ _ _ _ _ elem8, run_slice_h W 22 ao len cap elem8 .i64 _ (by omega) (by omega), size8]
  show Result.ok (sliced _ _ _ _ 1) W = _
  rw [Int.toNat_natCast, sliced, Nat.zero_mul]
  by_cases e : cap = 0
  · rw [if_pos e]; rfl
  · rw [if_neg e]
    cases ao <;> rfl
theorem Bys.take {W : World} {ao : Option Addr} {cap n : Nat} {bs : List Int} (h : Bys W (.slice ao bs.length cap) bs) (hn : n ≤ bs.length) : Bys W (.slice ao n cap) (bs.take n) := by
  obtain ⟨ao', cap', e, hl, hc, hz⟩ := h
  cases e
  have hln : (bs.take n).length = n := by rw [List.length_take]; omega
  refine ⟨ao, cap, by rw [hln], by omega, fun j hj => ?_, fun z h => hz z (List.mem_of_mem_take h)⟩
  obtain ⟨b, off, e, h1, h2⟩ := hc j (by omega)
  refine ⟨b, off, e, h1, ?_⟩
  rw [h2, List.getD_eq_getElem?_getD, List.getD_eq_getElem?_getD, List.getElem?_take_of_lt (by omega)]
/-- What the two roads come to. -/
theorem folds_same (a e : List Int) (ha : a.length % 128 = 0) : fol (fol sl a (a.length / 128)) (e ++ padL (a.length + e.length)) ((e ++ padL (a.length + e.length)).length / 128) = sumW (a ++ e) := by
  have hp := padL_len (a.length + e.length)
  have hf := plen_fits a.length e.length ha
  have hl : (e ++ padL (a.length + e.length)).length = e.length + plen (a.length + e.length) := by rw [List.length_append, hp]
  rw [← fol_concat sl a _ (a.length / 128) (by omega), sumW, List.append_assoc, show (a ++ e).length = a.length + e.length from List.length_append]
  congr 1
  rw [List.length_append, List.length_append, hp]
  omega
set_option maxRecDepth 100000 in
set_option maxHeartbeats 8000000 in
theorem folds_any (xs es : List Int) (w : World) (va ve : Value) (hNa : BysN w va xs) (hCa : ∀ a l c, va = .slice a l c → l ≤ c) (hNe : BysN w ve es) (hsz : xs.length + es.length ≤ 4194304) : Calls Try.prog 8 #[va, ve] w fun e w' => e = .returned (.bool true) ∧ Below w.heap.size w w' := by
  have hzs : ∀ z ∈ xs, 0 ≤ z ∧ z < 256 := by obtain ⟨⟨_, _, _, _, _, h⟩, _⟩ := hNa; exact h
  have hze : ∀ z ∈ es, 0 ≤ z ∧ z < 256 := by obtain ⟨⟨_, _, _, _, _, h⟩, _⟩ := hNe; exact h
  obtain ⟨hBa, _, hnilA⟩ := hNa
  obtain ⟨ao, cap, rfl, _, _, _⟩ := id hBa
  replace hCa := hCa _ _ _ rfl
  have hnA := bys_none hBa hnilA
  obtain ⟨hBe, _, hnilE⟩ := hNe
  obtain ⟨eo, ecap, rfl, _, _, _⟩ := id hBe
  have hnE := bys_none hBe hnilE
  obtain ⟨i0, hi, hz0, hz1, hz2⟩ := info8
  obtain ⟨n, en⟩ : ∃ n : Nat, n = xs.length - xs.length % 128 := ⟨_, rfl⟩
  have hcut := slice_to ao xs.length cap n (by omega)
  have hBt := Bys.take hBa (n := n) (by omega)
  have hnT : ao = none → n = 0 ∧ cap = 0 := fun h => by have := hnA h; omega
  have hlt : (xs.take n).length = n := by rw [List.length_take]; omega
  have hzt : ∀ z ∈ xs.take n, 0 ≤ z ∧ z < 256 := fun z h => hzs z (List.mem_of_mem_take h)
  have enI : (xs.length : Int) - (xs.length : Int) % 128 = (n : Int) := by omega
  have hn64 : n % 128 = 0 := by omega
  have hsz2 : n + es.length ≤ 4194304 := by omega
  clear hBa hnilA hnilE hnA hCa en hzs
  generalize xs.take n = A at *
  have hsame := folds_same A es (by omega)
  rw [hlt] at hsame
  have hpf := plen_fits n es.length hn64
  have hpb := plen_bd (n + es.length)
  have hpl := padL_len (n + es.length)
  have cW := a_words sl A rfl
  have cF := fun (W : World) (x : Value) (h : Bys W x A) => r_fold sl A rfl W x h sl_bd
  simp only [hlt] at cW cF
  have hHA8 : (fol sl A (n / 128)).length = 8 := fol_len rfl _ _
  have cW2 := a_words (fol sl A (n / 128)) (es ++ padL (n + es.length)) hHA8
  simp only [hsame] at cW2
  have hRl : (es ++ padL (n + es.length)).length = es.length + plen (n + es.length) := by rw [List.length_append, hpl]
  have hRz := both_bd hze (padL_bd (n + es.length))
  have hPz := padL_bd (n + es.length)
  have cB := r_bytes (sumW (A ++ es)) (sumW_len _) (sumW_bd _)
  rw [show byts (sumW (A ++ es)) = sumL (A ++ es) from rfl] at cB
  have heq := eqSum (A ++ es)
  have heq2 : ∀ W, (Op.equalIn 10000 31 (.agg (irow .u64 (fol sl A (n / 128)))) (.agg (irow .u64 (fol sl A (n / 128))))).run Try.prog W = .ok true W := fun W => by rw [eq23 _ _ hHA8 hHA8]; simp
  have hWl : (A ++ es).length = n + es.length := by rw [List.length_append, hlt]
  have hWz := both_bd hzt hze
  have cS := fun (W : World) (x : Value) h0 h1 => a_sum (A ++ es) W x h0 h1 (by omega)
  clear hsame
  generalize fol sl A (n / 128) = HA at *
  generalize sumW (A ++ es) = SW at *
  generalize sumL (A ++ es) = SL at *
  have cP := a_pad (n + es.length) (by omega)
  generalize eR : es ++ padL (n + es.length) = R at *
  generalize ePL : padL (n + es.length) = PL at *
  generalize plen (n + es.length) = pl at *
  go_enter Try.func8, Try.ntmps8
  go_wp2_with (fail)
  refine (r_start.at _).mono ?_
  rintro e_ w1 ⟨rfl, hw⟩
  replace hBt := hBt.keep hw
  replace hBe := hBe.keep hw
  go_wp2_with (fail)
  refine (cW w1 _ hBt (by omega)).mono ?_
  rintro e_ w2 ⟨rfl, hb⟩
  replace hBt := hBt.keep hb
  replace hBe := hBe.keep hb
  replace hw := Below.after hw hb
  clear hb
  go_upto_region 3 with (first | (refine wpList_alloc rfl 31 rfl (irow .u64 (zr 8)) zw8 ?_) | (refine wpList_store_row rfl 31 _ _ rfl (w2.heap.size) (irow .u64 HA) rfl rfl 31 _ (hp1_0 w2 _) (info23 _ hHA8) (fit8 _ _ (zr_len 8) hHA8) (irow_one _ _) ?_; rw [setRow_alloc_new _ _ _ _ _ _ rfl]) | fail)
  simp only [Act.put, List.setIfInBounds_toArray, List.set_cons_succ, List.set_cons_zero]
  have rh := hp1_0 w2 (.cells (irow .u64 HA) 31)
  have hb : Below w2.heap.size w2 (w2.alloc (.cells (irow .u64 HA) 31)) := (Below.refl _ _).alloc (Nat.le_refl _) _
  replace hBt := hBt.keep hb
  replace hBe := hBe.keep hb
  replace hw := Below.after hw hb
  clear hb
  generalize w2.alloc (.cells (irow .u64 HA) 31) = w3 at *
  generalize w2.heap.size = gH at *
  -- the end, and the padding behind it
  have hba : Below w3.heap.size w3 (w3.alloc (.cells #[] 5)) := (Below.refl _ _).alloc (Nat.le_refl _) _
  have hcell_ := bys_cells2 (hBe.keep hba)
  have hnone_ := hnE
  have hoe := own_empty w3
  have hbase_ := hba.size
  go_wp2_with (at_builtin; refine wpList_append_own_any _ rfl (.tmp 19) (.tmp 20) 22 rfl w3.heap.size 5 i0 (.int .u8 0) Try.underlying22 hi hz0 hz1 hz2 rfl _ 0 _ rfl hoe eo es.length ecap (es.map (Value.int .u8)) rfl (by rw [List.length_map]; omega) hnone_ hcell_ (ints_one .u8 _) (by unfold maxLen; omega) (by omega) hbase_ ?_)
  intro v1 w4 hown hgr
  try simp only [List.nil_append, Nat.zero_add] at hown
  replace hgr : (w3.alloc (.cells #[] 5)).grownBy w4 (some w3.heap.size) := hgr
  have hT : Below w3.heap.size w3 w4 := hba.grown hgr hba.size (fun k h => by injection h with h; omega)
  clear hba hcell_ hnone_ hoe hbase_ hgr
  obtain ⟨ao1, cap1, rfl⟩ := slen_own hown
  go_wp2_with (fail)
  refine (cP w4).mono ?_
  rintro e_ w5 ⟨vp, gp, rfl, rfl, hgp, rp, hb⟩
  have own1 := own_keep hown hb
  have hs4 := hT.size
  replace hT := hT.trans (hb.mono hs4)
  clear hown hb cP
  have hBp : Bys w5 (.slice (some ⟨gp, 0, none⟩) pl pl) PL := by rw [← hpl]; exact Bys.of_row rp (by omega) hPz _
  have hcell_ := bys_cells2 hBp
  have hnone_ : (some (⟨gp, 0, none⟩ : Addr)) = none → pl = 0 ∧ pl = 0 := fun h => by cases h
  have hbase_ := hT.size
  go_wp2_with (at_builtin; refine wpList_append_own_any _ rfl (.tmp 21) (.tmp 28) 22 rfl w3.heap.size 5 i0 (.int .u8 0) Try.underlying22 hi hz0 hz1 hz2 rfl _ es.length _ rfl own1 (some ⟨gp, 0, none⟩) pl pl (PL.map (Value.int .u8)) rfl (by rw [List.length_map]; omega) hnone_ hcell_ (ints_one .u8 _) (by unfold maxLen; omega) (by omega) hbase_ ?_)
  intro v2 w6 own2 hgr
  rw [← List.map_append, eR] at own2
  replace hT := hT.trans ((Below.refl w3.heap.size w5).grown hgr hbase_ (fun k h => (own1.lt k h).1))
  clear hcell_ hnone_ hbase_ hgr own1 hBp rp
  obtain ⟨ao2, cap2, rfl⟩ := slen_own own2
  have hd1 : (((es.length : Int) + (pl : Int)) % 128 != 0) = false := by simp; omega
  have hd2 : decide ((es.length : Int) + (pl : Int) < (es.length : Int) + 17) = false := by simp; omega
  have hs6 := hT.size
  replace hBt := hBt.keep hT
  replace hBe := hBe.keep hT
  replace rh := keep hT rh
  replace hw := Below.after hw hT
  -- the whole
  have hba : Below w6.heap.size w6 (w6.alloc (.cells #[] 5)) := (Below.refl _ _).alloc (Nat.le_refl _) _
  have hcell_ := bys_cells2 (hBt.keep hba)
  have hnone_ := hnT
  have hoe := own_empty w6
  have hbase_ := hba.size
  clear hT
  go_wp2_with (at_builtin; refine wpList_append_own_any _ rfl (.tmp 42) (.tmp 43) 22 rfl w6.heap.size 5 i0 (.int .u8 0) Try.underlying22 hi hz0 hz1 hz2 rfl _ 0 _ rfl hoe ao n cap (A.map (Value.int .u8)) rfl (by rw [List.length_map]; omega) hnone_ hcell_ (ints_one .u8 _) (by unfold maxLen; omega) (by omega) hbase_ ?_)
  intro v3 w7 hown hgr
  try simp only [List.nil_append, Nat.zero_add] at hown
  replace hgr : (w6.alloc (.cells #[] 5)).grownBy w7 (some w6.heap.size) := hgr
  have hT : Below w6.heap.size w6 w7 := hba.grown hgr hba.size (fun k h => by injection h with h; omega)
  clear hba hcell_ hnone_ hoe hbase_ hgr
  obtain ⟨ao3, cap3, rfl⟩ := slen_own hown
  have hcell_ := bys_cells2 (hBe.keep hT)
  have hnone_ := hnE
  have hbase_ := hT.size
  go_wp2_with (at_builtin; refine wpList_append_own_any _ rfl (.tmp 44) (.tmp 45) 22 rfl w6.heap.size 5 i0 (.int .u8 0) Try.underlying22 hi hz0 hz1 hz2 rfl _ n _ rfl hown eo es.length ecap (es.map (Value.int .u8)) rfl (by rw [List.length_map]; omega) hnone_ hcell_ (ints_one .u8 _) (by unfold maxLen; omega) (by omega) hbase_ ?_)
  intro v4 w8 own4 hgr
  rw [← List.map_append] at own4
  replace hT := hT.trans ((Below.refl w6.heap.size w7).grown hgr hbase_ (fun k h => (hown.lt k h).1))
  clear hcell_ hnone_ hbase_ hgr hown
  obtain ⟨ao4, cap4, rfl⟩ := slen_own own4
  replace hBt := hBt.keep hT
  replace rh := keep hT rh
  replace hw := Below.after hw hT
  replace own2 := own_keep own2 hT
  have hBr := Bys.of_own own2 (by omega) hRz
  have hBw := Bys.of_own own4 (by omega) hWz
  have hcw := own_cap own4
  clear hT own2 own4 hBe hd1 hd2 cW hcut
  have Hrh := keepr rh
  go_wp2
  refine wp_region_quiet_below (by kernel_rfl) (by kernel_rfl) ?_
  refine wpQuiet_load_row rfl 31 _ rfl (gH) rfl 31 (irow .u64 HA) (0, 0) _ Hrh.out Try.underlying31 rfl (info23 _ hHA8) ?_
  simp only [Act.put, List.setIfInBounds_toArray, List.set_cons_succ, List.set_cons_zero]
  go_big_quiet_step (fail)
  go_big_quiet_step (exact Calls.regrown_of (cW2 _ _ (hBr.keep (below_regrown _ _ _)) (by omega)))
  go_big_quiet_step (exact cB.re)
  go_big_quiet_step (fail)
  go_big_quiet_step (exact Calls.regrown_of (cS _ _ (hBw.keep (below_regrown _ _ _)) hcw))
  go_big_quiet_step (fail)
  go_big_quiet_step (fail)
  refine wpQuiet_load_want rfl 31 _ rfl (gH) rfl 31 (irow .u64 HA) (0, 0) _ Hrh.out Try.underlying31 rfl (info23 _ hHA8) ?_
  simp only [Act.put, List.setIfInBounds_toArray, List.set_cons_succ, List.set_cons_zero]
  go_big_quiet_step (exact r_start.re)
  go_big_quiet_step (fail)
  go_big_quiet_step (exact Calls.regrown_of (cF _ _ (hBt.keep (below_regrown _ _ _)) (by omega)))
  go_big_quiet_step (fail)
  go_big_quiet_step (fail)
  go_big_quiet_step (fail)
  refine wpQuiet_nil ?_
  rintro _ ⟨p, rfl⟩
  have hb := below_regrown w8 p.d p.os
  generalize grow (redrawn w8 p.d) p.os = w9 at *
  replace hw := Below.after hw hb
  clear hb

  go_wp2
  go_ret
  exact ⟨rfl, hw⟩

end Go.Proofs.Ytelildhjkknaiaa.Wi


namespace Go.Proofs.Ytelildhjkknaiaa.Wi
open Go Go.RowKit Go.Sort
attribute [local go_sem] setCell_drewN alloc_drewN

theorem wpList_append_own_want {P : Program} (w : World) {ops : Array Oper} {rest : List Oper} {o : Oper} {a : Act} {Q : Exit → Act → World → Prop} (hw : Region.wanted o (yielded ops a.tmps) = true) (s x : Operand) (t : TypeId)
    (ho : o.op = .call { callee := .builtin .append, args := #[s, x], argTypes := #[t, t] })
    (base : Nat) (e : TypeId) (i : TypeInfo) (z : Value) (ht : P.underlying t = some (.slice e)) (hi : P.info? e = some i) (hz : i.zero = some z)
    (hsize : i.size = 1) (hby : i.bytes = 1) (hzs : z.cells.size = 1)
    (v : Value) (n : Nat) (xs : List Value) (hs : a.eval s = v) (hown : w.ownsRow base e 1 v n xs)
    (ao : Option Addr) (m c : Nat) (news : List Value) (hx : a.eval x = .slice ao m c) (hl : news.length = m * 1) (hnone : ao = none → m = 0 ∧ c = 0) (hnews : ∀ ad, ao = some ad → ∀ j u, news[j]? = some u → w.cell? (ad.add j) = some u) (h1 : ∀ u ∈ news, u.oneCell' = true)
    (h63 : n + m ≤ maxLen) (hbytes : (n + m) * 1 ≤ 140737488355328) (hbase : base ≤ w.heap.size)
    (h : ∀ v' w', w'.ownsRow base e 1 v' (n + m) (xs ++ news) → w.grownBy w' v.ownBlock → wpList P ops Q rest (a.put o.dst v') w') : wpList P ops Q (o :: rest) a w := by
  refine BigFrame.wpList_want hw fun K hK' => ?_
  cases ao with
  | some ad => exact wp_append_own w s x t ho base e i z 1 1 ht hi hz hsize hby hzs (by decide) v n xs hs hown ad m c news hx hl (hnews ad rfl) h1 h63 hbytes hbase (fun v' w' h2 h3 _ => hK' _ _ (h v' w' h2 h3))
  | none =>
    obtain ⟨rfl, rfl⟩ := hnone rfl
    have hn0 : news = [] := List.eq_nil_of_length_eq_zero (by simpa using hl)
    subst hn0
    have hrun := run_append_owned_none (P := P) w base t o.type e i 1 ht hi _ n xs hown
    unfold Oper.wp
    simp [execOp, ho, resolve, invoke, builtin, hs, hx, hrun, Result.andThen]
    exact hK' _ _ (by simpa using h v w (by simpa using hown) (World.grownBy.refl _ _))
/-- Pieces of bytes, as they lie in a world. -/
def Pcs (W : World) (v : Value) (ps : List (List Int)) : Prop := ∃ ao cap, v = .slice ao ps.length cap ∧ ps.length ≤ 9223372036854775807 ∧ ∀ i, i < ps.length → ∃ b off u uc, ao = some ⟨b, off, none⟩ ∧ b < W.heap.size ∧ W.cell? ⟨b, off + i, none⟩ = some (.slice u (ps.getD i []).length uc) ∧ Bys W (.slice u (ps.getD i []).length uc) (ps.getD i []) ∧ (u = none → uc = 0)
/-- Bools, as they lie in a world. -/
def Bls (W : World) (v : Value) (qs : List Bool) : Prop := ∃ ao cap, v = .slice ao qs.length cap ∧ qs.length ≤ 9223372036854775807 ∧ ∀ i, i < qs.length → ∃ b off, ao = some ⟨b, off, none⟩ ∧ b < W.heap.size ∧ W.cell? ⟨b, off + i, none⟩ = some (.bool (qs.getD i false))
def flat (ps : List (List Int)) (k : Nat) : List Int := (ps.take k).flatten
theorem flat_next (ps : List (List Int)) (k : Nat) (hk : k < ps.length) : flat ps (k + 1) = flat ps k ++ ps.getD k [] := by
  unfold flat
  rw [List.take_add_one, List.flatten_append, List.getElem?_eq_getElem hk, List.getD_eq_getElem?_getD, List.getElem?_eq_getElem hk]
  simp
theorem flat_all (ps : List (List Int)) : flat ps ps.length = ps.flatten := by unfold flat; rw [List.take_length]
theorem flat_len (ps : List (List Int)) (k : Nat) : (flat ps k).length ≤ ps.flatten.length := by
  have h := congrArg List.flatten (List.take_append_drop k ps)
  rw [List.flatten_append] at h
  have := congrArg List.length h
  rw [List.length_append] at this
  unfold flat
  omega
theorem nilN (w : World) : BysN w (.slice none 0 0) [] := ⟨⟨none, 0, rfl, by decide, fun j hj => by simp at hj, by simp⟩, by decide, fun a l c h _ => by cases h; rfl⟩
set_option maxRecDepth 100000 in
set_option maxHeartbeats 8000000 in
theorem pieces_any (ps : List (List Int)) (qs : List Bool) (w : World) (vp vq : Value) (hP : Pcs w vp ps) (hQ : Bls w vq qs) (hsz : ps.flatten.length ≤ 4194304) : Calls Try.prog 7 #[vp, vq] w fun e w' => e = .returned (.bool true) ∧ Below w.heap.size w w' := by
  obtain ⟨pao, pcap, rfl, hpl, hpc⟩ := hP
  obtain ⟨qao, qcap, rfl, hql, hqc⟩ := hQ
  have hfl := flat_len ps
  have hfn := flat_next ps
  have hfa := flat_all ps
  have hpz : ∀ k, k < ps.length → ∀ z ∈ ps.getD k [], 0 ≤ z ∧ z < 256 := fun k hk => by
    obtain ⟨_, _, _, _, _, _, _, ⟨_, _, _, _, _, h⟩, _⟩ := hpc k hk
    exact h
  have hpn : ∀ k, k < ps.length → (ps.getD k []).length ≤ 4194304 := fun k hk => by
    have h1 := hfl (k + 1)
    rw [hfn k hk, List.length_append] at h1
    omega
  obtain ⟨i0, hi, hz0, hz1, hz2⟩ := info8
  obtain ⟨E, eE⟩ : ∃ E : List Int, E = [] := ⟨[], rfl⟩
  have heq0 := eqSum E
  have cA0 := a_sum E
  have cR0 := r_sum E
  generalize enp : ps.length = np at *
  generalize enq : qs.length = nq at *
  go_enter Try.func7, Try.ntmps7
  go_wp2_with (fail)
  refine (a_new w).mono ?_
  rintro e_ w1 ⟨gH, hgH, rfl, rH, hw⟩
  rw [← eE] at rH
  replace eE := hide eE
  generalize eg : w.heap.size = n0 at *
  have hN : BysN w1 (.slice none 0 0) E := by rw [eE.out]; exact nilN w1
  go_wp2_with (fail)
  refine (cA0 w1 (.slice none 0 0) hN.1 (fun a l c h => by cases h; exact Nat.le_refl _) (by rw [eE.out]; simp)).mono ?_
  rintro e_ w2 ⟨rfl, hb⟩
  have lH := lt_of_row rH
  replace rH := keep hb rH
  replace hw := hw.trans (hb.mono (by omega))
  clear hb hN
  have hN : BysN w2 (.slice none 0 0) E := by rw [eE.out]; exact nilN w2
  go_wp2_with (fail)
  refine (cR0 w2 (.slice none 0 0) hN).mono ?_
  rintro e_ w3 ⟨rfl, hb⟩
  have lH2 := lt_of_row rH
  replace rH := keep hb rH
  replace hw := hw.trans (hb.mono (by omega))
  clear hb hN cA0 cR0
  have lH3 := lt_of_row rH
  have hown := own_empty w3
  have hba : Below w3.heap.size w3 (w3.alloc (.cells #[] 5)) := (Below.refl _ _).alloc (Nat.le_refl _) _
  replace rH := keep hba rH
  replace hw := hw.trans (hba.mono (by omega))
  have hBs := hba.size
  clear hba
  go_wp2
  clear heq0
  rw [eE.out] at rH
  generalize w3.alloc (.cells #[] 5) = w4 at *
  generalize w3.heap.size = B at *
  go_loopw [6, 7] (fun x i wr => ∃ k : Nat, k ≤ np ∧ i = .int .i64 k ∧ wr.heap[gH]? = some (.cells (hst (flat ps k)) 65 (0, 0)) ∧ wr.ownsRow B 5 1 x (flat ps k).length ((flat ps k).map (Value.int .u8)) ∧ (∀ z ∈ flat ps k, 0 ≤ z ∧ z < 256) ∧ B ≤ wr.heap.size ∧ Below n0 w wr) (fun _ i _ => np - (intOf i).toNat)
  case atStart => exact ⟨0, by omega, rfl, rH, hown, (by intro z h; cases h), hBs, hw⟩
  case round =>
    clear rH hown hw hBs
    obtain ⟨k, hk, rfl, rH, hown, hfz, hBs, hw⟩ := hrel
    obtain ⟨xo, xcap, rfl⟩ := slen_own hown
    have hfk := hfl k
    by_cases hlt : k < np
    · have hd : decide ((k : Int) < (np : Int)) = true := by simp; omega
      obtain ⟨pb, poff, u, uc, rfl, hpb, hpcell, hBk, hun⟩ := hpc k hlt
      have hPz := hpz k hlt
      have hPn := hpn k hlt
      have hF1 := hfn k hlt
      have hfk1 := hfl (k + 1)
      rw [hF1, List.length_append] at hfk1
      have hBk' : ∀ W, Below n0 w W → Bys W (.slice u (ps.getD k []).length uc) (ps.getD k []) := fun W h => hBk.keep (by rw [eg]; exact h)
      have hpc' : ∀ W, Below n0 w W → W.cell? ⟨pb, poff + k, none⟩ = some (.slice u (ps.getD k []).length uc) := fun W h => (h.cell (p := ⟨pb, poff + k, none⟩) hpb).trans hpcell
      have hqc' : ∀ W, Below n0 w W → ∀ i, i < nq → ∃ b off, qao = some ⟨b, off, none⟩ ∧ W.cell? ⟨b, off + i, none⟩ = some (.bool (qs.getD i false)) := fun W h i hi => by
        obtain ⟨b, off, e, h1, h2⟩ := hqc i hi
        exact ⟨b, off, e, (h.cell (p := ⟨b, off + i, none⟩) h1).trans h2⟩
      clear hpc hpz hpn hfn hfl hBk hpcell hqc
      replace hF1 := hide hF1
      replace hBk' := hide hBk'
      replace hpc' := hide hpc'
      replace hqc' := hide hqc'
      generalize ps.getD k [] = P at *
      generalize flat ps k = Fk at *
      -- the piece, copied and written
      have hnone8 := bys_none2 (hBk'.out wr hw) hun
      have hlw := lt_of_row rH
      have hcA := hpc'.out (wr.alloc (.cells #[] 5)) (hw.alloc (by omega) _)
      have hba : Below wr.heap.size wr (wr.alloc (.cells #[] 5)) := (Below.refl _ _).alloc (Nat.le_refl _) _
      have hcell_ := bys_cells2 ((hBk'.out wr hw).keep hba)
      have hnone_ := hnone8
      have hoe := own_empty wr
      have hbase_ := hba.size
      go_wp2_with (at_builtin; refine wpList_append_own_any _ rfl (.tmp 24) (.tmp 28) 22 rfl wr.heap.size 5 i0 (.int .u8 0) Try.underlying22 hi hz0 hz1 hz2 rfl _ 0 _ rfl hoe u P.length uc (P.map (Value.int .u8)) rfl (by rw [List.length_map]; omega) hnone_ hcell_ (ints_one .u8 _) (by unfold maxLen; omega) (by omega) hbase_ ?_)
      intro v1 w5 own1 hgr
      try simp only [List.nil_append, Nat.zero_add] at own1
      replace hgr : (wr.alloc (.cells #[] 5)).grownBy w5 (some wr.heap.size) := hgr
      have hb : Below wr.heap.size wr w5 := hba.grown hgr hba.size (fun k h => by injection h with h; omega)
      clear hba hcell_ hnone_ hoe hbase_ hgr

      clear hcA
      replace rH := keep hb rH
      have own5 := own_keep hown hb
      have hs5 := hb.size
      replace hw := hw.trans (hb.mono (by omega))
      clear hb hown
      obtain ⟨ao1, cap1, rfl⟩ := slen_own own1
      have cW := a_write Fk P gH w5 _ rH (Bys.of_own own1 (by omega) hPz) (fun a l c h hl => by cases h; have := (own1.lt a.block rfl).1; omega) (own_cap own1) hfz (by omega)
      go_wp2_with (fail)
      refine cW.mono ?_
      rintro e_ w6 ⟨rfl, rH6, hgr⟩
      have own6 := own5.kept hgr (.inr (by intro e; have := (own5.lt gH e).1; omega))
      have hs6 := hgr.size
      replace hw := hw.grown hgr (by omega) (fun k h => by injection h with h; omega)
      clear cW rH hgr own1 own5
      -- the whole
      have hcB := hpc'.out w6 hw
      have hcell_ := bys_cells2 (hBk'.out w6 hw)
      have hnone_ := hnone8
      have hbase_ : B ≤ w6.heap.size := by omega
      go_wp2_with (at_builtin; refine wpList_append_own_any _ rfl (.tmp 31) (.tmp 35) 22 rfl B 5 i0 (.int .u8 0) Try.underlying22 hi hz0 hz1 hz2 rfl _ Fk.length _ rfl own6 u P.length uc (P.map (Value.int .u8)) rfl (by rw [List.length_map]; omega) hnone_ hcell_ (ints_one .u8 _) (by unfold maxLen; omega) (by omega) hbase_ ?_)

      intro x7 w7 own7 hgr
      have lH6 := lt_of_row rH6
      have rH : w7.heap[gH]? = some (.cells (hst (Fk ++ P)) 65 (0, 0)) := (hgr.block gH lH6 (by intro e; have := (own6.lt gH e.symm).1; omega)).trans rH6
      have hs7 := hgr.size
      replace hw := hw.grown hgr (by omega) (fun k h => by have := (own6.lt k h).1; omega)
      have hB7 : B ≤ w7.heap.size := by omega
      clear hcB hcell_ hnone_ hbase_ hgr own6 rH6
      obtain ⟨xo7, xc7, rfl⟩ := slen_own own7
      by_cases hq1 : k < nq
      · have hdq : decide ((k : Int) < (nq : Int)) = true := by simp; omega
        obtain ⟨qb, qoff, rfl, hqcell⟩ := hqc'.out w7 hw k hq1
        generalize qs.getD k false = ask at *
        cases ask
        · go_wp2
          refine ⟨⟨k + 1, by omega, by go_num, by rw [hF1.out]; exact rH, by rw [hF1.out, List.length_append, List.map_append]; exact own7, by rw [hF1.out]; exact both_bd hfz hPz, hB7, hw⟩, ?_⟩
          simp [intOf]; omega
        · have cS := a_hsum (Fk ++ P) gH w7 rH (both_bd hfz hPz) (by rw [List.length_append]; omega)
          have heq := eqSum (Fk ++ P)
          rw [← List.map_append] at own7
          have hFl : (Fk ++ P).length = Fk.length + P.length := List.length_append
          go_wp2_with (fail)
          refine cS.mono ?_
          rintro e_ w8 ⟨rfl, hb⟩
          replace rH := keep hb rH
          replace own7 := own_keep own7 hb
          have hs8 := hb.size
          replace hw := hw.trans (hb.mono (by omega))
          replace hB7 : B ≤ w8.heap.size := by omega
          clear hb cS
          have hBx := Bys.of_own own7 (by omega) (both_bd hfz hPz)
          have hnx := bys_none2 hBx (own_nil own7 _ _ _ rfl)
          have hba : Below w8.heap.size w8 (w8.alloc (.cells #[] 5)) := (Below.refl _ _).alloc (Nat.le_refl _) _
          have hcell_ := bys_cells2 ((hBx).keep hba)
          have hnone_ := hnx
          have hoe := own_empty w8
          have hbase_ := hba.size
          go_wp2_with (at_builtin; refine wpList_append_own_want _ rfl (.tmp 50) (.tmp 51) 22 rfl w8.heap.size 5 i0 (.int .u8 0) Try.underlying22 hi hz0 hz1 hz2 rfl _ 0 _ rfl hoe xo7 (Fk.length + P.length) xc7 ((Fk ++ P).map (Value.int .u8)) rfl (by rw [List.length_map]; omega) hnone_ hcell_ (ints_one .u8 _) (by unfold maxLen; omega) (by omega) hbase_ ?_)
          intro v9 w9 own9 hgr
          try simp only [List.nil_append, Nat.zero_add] at own9
          replace hgr : (w8.alloc (.cells #[] 5)).grownBy w9 (some w8.heap.size) := hgr
          have hb : Below w8.heap.size w8 w9 := hba.grown hgr hba.size (fun k h => by injection h with h; omega)
          clear hba hcell_ hnone_ hoe hbase_ hgr

          replace rH := keep hb rH
          replace own7 := own_keep own7 hb
          have hs9 := hb.size
          replace hw := hw.trans (hb.mono (by omega))
          replace hB7 : B ≤ w9.heap.size := by omega
          clear hb hBx hnx
          try rw [← List.map_append] at own9
          obtain ⟨ao9, cap9, rfl⟩ := slen_own own9
          have cS2 := a_sum (Fk ++ P) w9 _ (Bys.of_own own9 (by omega) (both_bd hfz hPz)) (own_cap own9) (by omega)
          go_wp2_with (fail)
          refine cS2.mono ?_
          rintro e_ wa ⟨rfl, hb⟩
          replace rH := keep hb rH
          replace own7 := own_keep own7 hb
          have hsa := hb.size
          replace hw := hw.trans (hb.mono (by omega))
          replace hB7 : B ≤ wa.heap.size := by omega
          clear hb cS2 own9
          rw [List.map_append] at own7
          go_wp2
          refine ⟨⟨k + 1, by omega, by go_num, by rw [hF1.out]; exact rH, by rw [hF1.out, List.length_append, List.map_append]; exact own7, by rw [hF1.out]; exact both_bd hfz hPz, hB7, hw⟩, ?_⟩
          simp [intOf]; omega
      · have hdq : decide ((k : Int) < (nq : Int)) = false := by simp; omega
        go_wp2
        refine ⟨⟨k + 1, by omega, by go_num, by rw [hF1.out]; exact rH, by rw [hF1.out, List.length_append, List.map_append]; exact own7, by rw [hF1.out]; exact both_bd hfz hPz, hB7, hw⟩, ?_⟩
        simp [intOf]; omega
    · obtain rfl : k = np := by omega
      have hd : decide ((k : Int) < (k : Int)) = false := by simp
      generalize flat ps k = Fk at *
      have heq := eqSum Fk
      clear hpc hpz hpn hfn hfl hqc hfa
      have cS := a_hsum Fk gH wr rH hfz (by omega)
      go_wp2_with (fail)
      refine cS.mono ?_
      rintro e_ w8 ⟨rfl, hb⟩
      have lw := lt_of_row rH
      replace rH := keep hb rH
      replace hown := own_keep hown hb
      have hs8 := hb.size
      replace hw := hw.trans (hb.mono (by omega))
      clear hb cS
      have cS2 := a_sum Fk w8 _ (Bys.of_own hown (by omega) hfz) (own_cap hown) (by omega)
      go_wp2_with (fail)
      refine cS2.mono ?_
      rintro e_ w9 ⟨rfl, hb⟩
      replace rH := keep hb rH
      replace hw := hw.trans (hb.mono (by omega))
      clear hb cS2
      go_wp2_with (fail)
      refine (a_size Fk gH w9 rH).mono ?_
      rintro e_ wa ⟨rfl, hb⟩
      replace hw := hw.trans (hb.mono (by have := lt_of_row rH; omega))
      clear hb
      go_wp2
      go_ret
      exact ⟨rfl, by rw [eg]; exact hw⟩

end Go.Proofs.Ytelildhjkknaiaa.Wi


namespace Go.Proofs.Ytelildhjkknaiaa.Wi
open Go Go.ChangeShapes Go.WideShapes Go.ChangeAt Go.RowKit Go.Deep

/-! Pieces and bools, out of the data. -/
theorem cellsB8 : Try.prog.cellsOf 5 = 1 := by kernel_rfl
theorem cellsSl : Try.prog.cellsOf 22 = 1 := by kernel_rfl
theorem cellsBo : Try.prog.cellsOf 4 = 1 := by kernel_rfl
theorem blk_of_cell {w : World} {b o : Nat} {v : Value} (h : w.cell? ⟨b, o, none⟩ = some v) : b < w.heap.size := by
  rcases Nat.lt_or_ge b w.heap.size with q | q
  · exact q
  · simp [World.cell?, Array.getElem?_eq_none q] at h
/-- One list of bytes. -/
theorem bytes_of_trod {H : Type} {enc : TypeId × Value → H} {W : World} {m : Nat} {v : Value} {x : DataW H × List MemPlace} (hf : DataW.trod enc Try.prog W 0 (fun _ => true) true m 22 [v] = some x) :
    ∃ bs : List Int, ∃ u uc, v = .slice u bs.length uc ∧ Bys W (.slice u bs.length uc) bs ∧ (u = none → uc = 0) ∧ bs.length ≤ uc ∧ bs.length ≤ Rows.uptoBulk x.1 := by
  rcases open_ints Try.underlying22 Try.underlying5 cellsB8 hf with ⟨hcs, hx⟩ | ⟨a, len, cap, zs, hcs, _, hl, hm, hz, hx, hcell, hwz⟩
  · injection hcs with hv _
    subst hv
    exact ⟨[], none, 0, rfl, ⟨none, 0, rfl, by decide, fun j hj => by simp at hj, by simp⟩, fun _ => rfl, Nat.le_refl _, Nat.zero_le _⟩
  · injection hcs with hv _
    subst hv
    subst hx
    simp only [if_true] at hz
    have hb := bulk_slice (lits (H := H) .u8 (zs.take len)) (lits .u8 (zs.drop len))
    simp only [lits, List.length_map] at hb
    have hlen : (zs.take len).length = len := by rw [List.length_take]; omega
    simp only [maxLen] at hm
    refine ⟨zs.take len, some a, cap, by rw [hlen], ?_, (fun h => by cases h), by omega, by simp only [lits]; omega⟩
    refine ⟨some a, cap, rfl, by rw [hlen]; omega, fun j hj => ?_, fun z h => u8_of_wf (hwz z (List.mem_of_mem_take h))⟩
    rw [hlen] at hj
    have hc := hcell j (by omega)
    obtain ⟨bb, off, spot⟩ := a
    have hspot : spot = none := by simpa [Addr.add] using World.cell?_spot (hcell 0 (by omega))
    subst hspot
    rw [addr_add] at hc
    refine ⟨bb, off, rfl, blk_of_cell hc, ?_⟩
    rw [hc, List.getD_eq_getElem?_getD, List.getD_eq_getElem?_getD, List.getElem?_take_of_lt hj]
theorem flat_bulk {H : Type} (PS : Nat → List Int) (D : Nat → DataW H) : ∀ l : List Nat, (∀ i ∈ l, (PS i).length ≤ Rows.uptoBulk (D i)) → ((l.map PS).flatten).length ≤ Rows.uptoBulkAll (l.map D)
  | [], _ => by simp [Rows.uptoBulkAll]
  | i :: r, h => by
    have h1 := h i (by simp)
    have h2 := flat_bulk PS D r (fun j hj => h j (by simp [hj]))
    simp only [List.map_cons, List.flatten_cons, List.length_append, Rows.uptoBulkAll]
    omega
theorem range_getD {α : Type} (f : Nat → α) (d : α) (n i : Nat) (h : i < n) : ((List.range n).map f).getD i d = f i := by
  rw [List.getD_eq_getElem?_getD, List.getElem?_map, List.getElem?_range h]
  rfl
theorem pcs_of_trod {H : Type} {enc : TypeId × Value → H} {W : World} {m : Nat} {v : Value} {x : DataW H × List MemPlace} (hf : DataW.trod enc Try.prog W 0 (fun _ => true) true m 50 [v] = some x) :
    ∃ ps : List (List Int), Pcs W v ps ∧ ps.flatten.length ≤ Rows.uptoBulk x.1 := by
  rcases open_slice1 Try.underlying50 cellsSl hf with ⟨hcs, hx⟩ | ⟨a, len, cap, m, n, V, D, Pl, hcs, _, hl, hm, hmm, hx, hel⟩
  · injection hcs with hv _
    subst hv
    exact ⟨[], ⟨none, 0, rfl, by decide, fun i hi => by simp at hi⟩, Nat.zero_le _⟩
  · injection hcs with hv _
    subst hv
    subst hx
    simp only [if_true] at hmm
    subst hmm
    obtain ⟨PS, hPS⟩ := choose_lt (α := List Int) (p := fun i bs => ∃ u uc, V i = .slice u bs.length uc ∧ Bys W (.slice u bs.length uc) bs ∧ (u = none → uc = 0) ∧ bs.length ≤ Rows.uptoBulk (D i)) (n := len) (fun i hi => by
      obtain ⟨bs, u, uc, h1, h2, h3, _, h5⟩ := bytes_of_trod (hel i (by omega)).2
      exact ⟨bs, u, uc, h1, h2, h3, h5⟩)
    have hb := bulk_elems ((List.range len).map D) ((List.range (m - len)).map fun j => D (len + j))
    have hfb := flat_bulk PS D (List.range len) (fun i hi => by
      obtain ⟨_, _, _, _, _, h⟩ := hPS i (List.mem_range.1 hi)
      exact h)
    simp only [maxLen] at hm
    refine ⟨(List.range len).map PS, ⟨some a, _, by simp; rfl, by simp; omega, fun i hi => ?_⟩, by show _ ≤ Rows.uptoBulk (DataW.slice _ _); omega⟩
    have hi' : i < len := by simpa using hi
    obtain ⟨u, uc, h1, h2, h3, _⟩ := hPS i hi'
    have hc := (hel i (by omega)).1
    obtain ⟨bb, off, spot⟩ := a
    have hspot : spot = none := by simpa [Addr.add] using World.cell?_spot (hel 0 (by omega)).1
    subst hspot
    rw [addr_add, h1] at hc
    rw [range_getD PS [] len i hi']
    exact ⟨bb, off, u, uc, rfl, blk_of_cell hc, hc, h2, h3⟩
theorem bls_of_trod {H : Type} {enc : TypeId × Value → H} {W : World} {m : Nat} {v : Value} {x : DataW H × List MemPlace} (hf : DataW.trod enc Try.prog W 0 (fun _ => true) true m 51 [v] = some x) :
    ∃ qs : List Bool, Bls W v qs := by
  rcases open_slice1 Try.underlying51 cellsBo hf with ⟨hcs, hx⟩ | ⟨a, len, cap, m, n, V, D, Pl, hcs, _, hl, hm, hmm, hx, hel⟩
  · injection hcs with hv _
    subst hv
    exact ⟨[], ⟨none, 0, rfl, by decide, fun i hi => by simp at hi⟩⟩
  · injection hcs with hv _
    subst hv
    simp only [if_true] at hmm
    subst hmm
    obtain ⟨Q, hQ⟩ := choose_lt (α := Bool) (p := fun i b => V i = .bool b) (n := len) (fun i hi => by
      obtain ⟨b, h1, _⟩ := DataW.trod_bool Try.underlying4 (hel i (by omega)).2
      injection h1 with h1 _
      exact ⟨b, h1⟩)
    simp only [maxLen] at hm
    refine ⟨(List.range len).map Q, ⟨some a, _, by simp; rfl, by simp; omega, fun i hi => ?_⟩⟩
    have hi' : i < len := by simpa using hi
    have hc := (hel i (by omega)).1
    obtain ⟨bb, off, spot⟩ := a
    have hspot : spot = none := by simpa [Addr.add] using World.cell?_spot (hel 0 (by omega)).1
    subst hspot
    rw [addr_add, hQ i hi'] at hc
    rw [range_getD Q false len i hi']
    exact ⟨bb, off, rfl, blk_of_cell hc, hc⟩
end Go.Proofs.Ytelildhjkknaiaa.Wi
