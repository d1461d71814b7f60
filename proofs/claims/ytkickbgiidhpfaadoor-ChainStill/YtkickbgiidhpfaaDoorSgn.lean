import Derived.Test.YtkickbgiidhpfaaDoorProg
import Derived.WalkKit
import Derived.WalkSpells
import Derived.WalkLawsBesides
import Derived.Lib.QuietBelow
import Derived.BigQuiet
import Derived.Test.YtkickbgiidhpfaaDoorKa
import Derived.Test.YtkickbgiidhpfaaDoorSgm
namespace Go.Proofs.YtkickbgiidhpfaaDoor
open Go Go.RowKit Go.Sort
attribute [local go_sem] setCell_drewN alloc_drewN

theorem foldl_ovw (off : Nat) : ∀ (vs : List Value) (k : Nat) (cs : Array Value), (vs.zipIdx k).foldl (fun cs (x : Value × Nat) => cs.setIfInBounds (off + x.2) x.1) cs = ovw cs (off + k) vs
  | [], _, _ => rfl
  | v :: r, k, cs => by
    rw [List.zipIdx_cons, List.foldl_cons, foldl_ovw off r (k + 1), ovw]
    rfl
theorem fill_agg (place : Nat → Option (Nat × Nat)) (cs a : Array Value) (i off : Nat) (rest : List (Nat × Value)) (hp : place i = some (off, a.size)) (hf : off + a.size ≤ cs.size) : Instr.fill place cs ((i, .agg a) :: rest) = Instr.fill place (ovw cs off a.toList) rest := by
  rw [Instr.fill, hp]
  have h1 : (Value.agg a).cells = a := rfl
  simp only [h1]
  rw [if_neg (by simp; omega)]
  congr 1
  have h2 := foldl_ovw off a.toList 0 cs
  rw [Nat.add_zero] at h2
  rw [← h2, ← Array.foldl_toList, Array.toList_zipIdx]
theorem ovw_size : ∀ (vs : List Value) (cs : Array Value) (o : Nat), (ovw cs o vs).size = cs.size
  | [], _, _ => rfl
  | v :: r, cs, o => by rw [ovw, ovw_size r, Array.size_setIfInBounds]
theorem mac_fill (parts : List (Nat × Value)) : Tryd.prog.built 64 parts = Instr.fill (#[(0, 73), (73, 73), (146, 73)][·]?) ((hcells (zr 8) (zr 64) 0).toList ++ ((hcells (zr 8) (zr 64) 0).toList ++ (hcells (zr 8) (zr 64) 0).toList)).toArray parts := by kernel_rfl
theorem z73 : (hcells (zr 8) (zr 64) 0).size = 73 := rfl
theorem mac_built (key : List Int) : Tryd.prog.built 64 [(1, .agg (hst (kin key))), (2, .agg (hst (kout key)))] = some (mcl (hcells (zr 8) (zr 64) 0) key) := by
  have h1 := hst_size (kin key)
  have h2 := hst_size (kout key)
  have h0 := z73
  rw [mac_fill]
  unfold mcl mrest
  generalize hst (kin key) = A at *
  generalize hst (kout key) = B at *
  generalize hcells (zr 8) (zr 64) 0 = Z at *
  rw [fill_agg _ _ A 1 73 _ (by rw [h1]; rfl) (by simp [h0, h1]), fill_agg _ _ B 2 146 _ (by rw [h2]; rfl) (by rw [ovw_size]; simp [h0, h2]), Instr.fill]
  congr 1
  apply Array.ext'
  rw [ovw_list _ _ _ (by rw [ovw_size]; simp [h0, h2]), ovw_list _ _ _ (by simp [h0, h1])]
  have e0 : Z.toList.length = 73 := by rw [Array.length_toList, h0]
  have e1 : A.toList.length = 73 := by rw [Array.length_toList, h1]
  have e2 : B.toList.length = 73 := by rw [Array.length_toList, h2]
  simp only [e1, e2]
  rw [List.take_left' e0]
  rw [← List.append_assoc Z.toList Z.toList, List.drop_left' (show (Z.toList ++ Z.toList).length = 73 + 73 by rw [List.length_append, e0])]
  rw [List.take_left' (show (Z.toList ++ A.toList).length = 146 by rw [List.length_append, e0, e1]), List.drop_eq_nil_of_le (by simp only [List.length_append, e0, e1]; decide)]
  simp
theorem bM (cs : Array Value) (W : World) : (Instr.box 64 (.agg cs)).run Tryd.prog W = .ok (.pointer (some ⟨W.heap.size, 0, none⟩)) (W.alloc (.cells cs 64)) := by kernel_rfl
set_option maxRecDepth 100000 in
set_option maxHeartbeats 4000000 in
theorem a_mnew (key : List Int) (w : World) (v : Value) (hS : Sta w) (hK : Kon w) (hB : Bys w v key) (hcap : ∀ a l c, v = .slice a l c → l ≤ c) (hlim : key.length ≤ 4611686018427387000) : Calls Tryd.prog 20 #[v] w fun e w' => ∃ g, e = .returned (.pointer (some ⟨g, 0, none⟩)) ∧ w.heap.size ≤ g ∧ w'.heap[g]? = some (.cells (mst key []) 64 (0, 0)) ∧ Below w.heap.size w w' := by
  have cK := a_blockKey key w v hS hK hB hcap hlim
  have hkl := kb64_len key
  have hbt := mac_built key
  have b1 := a_begun (kb64 key) hkl 54
  have b2 := a_begun (kb64 key) hkl 92
  rw [show xl (kb64 key) 54 = kin key from rfl] at b1
  rw [show xl (kb64 key) 92 = kout key from rfl] at b2
  have cR := fun (g : Nat) (W : World) r => a_mresetH (hcells (zr 8) (zr 64) 0) z73 key g W r
  generalize kb64 key = KB at *
  generalize mst key [] = M at *
  generalize mcl (hcells (zr 8) (zr 64) 0) key = M0 at *
  generalize hst (kin key) = A at *
  generalize hst (kout key) = B at *
  go_enter Tryd.func20, Tryd.ntmps20
  go_wp2_with (fail)
  refine cK.mono ?_
  rintro e_ w1 ⟨rfl, hw⟩
  clear cK
  have f0 := hS.below hw
  have f4 := hK.below hw
  have r1 := hp1_0 w1 (.cells (irow .u8 KB) 59)
  have hba : Below w1.heap.size w1 (w1.alloc (.cells (irow .u8 KB) 59)) := (Below.refl _ _).alloc (Nat.le_refl _) _
  replace f0 := f0.below hba
  replace f4 := f4.below hba
  have hs1 := hw.size
  replace hw := Below.after hw hba
  clear hba
  go_wp2_with (first | (refine wpList_alloc rfl 59 rfl (irow .u8 (zr 64)) z24 ?_) | (refine wpList_store_row rfl 59 _ _ rfl (w1.heap.size) (irow .u8 KB) rfl rfl 59 _ (hp1_0 w1 _) (info64 _ hkl) (fit64 _ _ (zr_len 64) hkl) (irow_one _ _) ?_; rw [setRow_alloc_new _ _ _ _ _ _ rfl]) | fail)
  generalize w1.alloc (.cells (irow .u8 KB) 59) = w2 at *
  generalize w1.heap.size = G1 at *
  refine wp_region_alloc_ex 5 5 [] (fun _ => .cells #[] 0 (0, 0)) (by kernel_rfl) (by decide) (by decide) (by kernel_rfl) (by kernel_rfl) (by kernel_rfl) (by kernel_rfl) (by kernel_rfl) (by kernel_rfl) (by kernel_rfl) (by kernel_rfl) (by decide) (by decide) ?_ ?_
  · intro s l u
    omega
  apply Exists.intro
  constructor
  · intro v_ hb
    have H1 := keepr (keep hb r1)
    have F0 := f0.below hb
    have F4 := f4.below hb
    clear hb; dsimp only [List.take]
    refine wpQuiet_load_row rfl 59 _ rfl G1 rfl 59 (irow .u8 KB) (0, 0) _ H1.out Tryd.underlying59 rfl (info64 _ hkl) ?_
    simp only [Act.put, List.setIfInBounds_toArray, List.set_cons_succ, List.set_cons_zero]
    go_big_quiet_step (exact b1.re F0 F4)
    refine wpQuiet_load_row rfl 59 _ rfl G1 rfl 59 (irow .u8 KB) (0, 0) _ H1.out Tryd.underlying59 rfl (info64 _ hkl) ?_
    simp only [Act.put, List.setIfInBounds_toArray, List.set_cons_succ, List.set_cons_zero]
    go_big_quiet_step (exact b2.re F0 F4)
    refine wpQuiet_build rfl 64 _ rfl [(1, .agg A), (2, .agg B)] rfl M0 hbt ?_
    simp only [Act.put, List.setIfInBounds_toArray, List.set_cons_succ, List.set_cons_zero]
    refine wpQuiet_nil ?_
    rfl
  intro w3 g_ hb _ _
  simp only [List.drop, puts, ptrs, List.map, List.foldl, Act.put]
  have hs2 := hw.size
  have hs3 := hb.size
  replace hw := Below.after hw hb
  have hba : Below w3.heap.size w3 (w3.alloc (.cells M0 64)) := (Below.refl _ _).alloc (Nat.le_refl _) _
  have r3 := hp1_0 w3 (.cells M0 64)
  replace hw := Below.after hw hba
  clear hba hb f0 f4 r1
  go_wp2_with (first | (refine wpList_box rfl 64 _ rfl _ rfl (bM _) ?_) | fail)
  generalize w3.alloc (.cells M0 64) = w4 at *
  refine (cR _ w4 r3).mono ?_
  rintro e_ w5 ⟨rfl, r5, hgr⟩
  replace hw := hw.grown hgr hw.size (fun k h => by injection h with h; omega)
  go_wp2
  go_ret
  exact ⟨_, rfl, by omega, r5, hw⟩
set_option maxRecDepth 100000 in
set_option maxHeartbeats 4000000 in
theorem a_macSum (key bs : List Int) (w : World) (v vb : Value) (hS : Sta w) (hK : Kon w) (hB : Bys w v key) (hcap : ∀ a l c, v = .slice a l c → l ≤ c) (hlim : key.length ≤ 4611686018427380000) (hBb : Bys w vb bs) (hcapb : ∀ a l c, vb = .slice a l c → l ≤ c) (hlimb : bs.length ≤ 4611686018427380000) : Calls Tryd.prog 17 #[v, vb] w fun e w' => e = .returned (.agg (irow .u8 (hm key bs))) ∧ Below w.heap.size w w' := by
  have r0 := hp1_0 w (.cells (irow .u8 (zr 32)) 23)
  have hw : Below w.heap.size w (w.alloc (.cells (irow .u8 (zr 32)) 23)) := (Below.refl _ _).alloc (Nat.le_refl _) _
  have f0 := hS.below hw
  have f4 := hK.below hw
  have hk1 := hK.sz
  have hne : ∀ a l c, vb = .slice (some a) l c → 0 < l → a.block < w.heap.size := by
    rintro a l c rfl hl
    obtain ⟨_, _, e, _, hc, _⟩ := hBb
    injection e with e1 e2 e3
    obtain ⟨b0, off, e, hb, _⟩ := hc 0 (by omega)
    rw [e] at e1
    injection e1 with e1
    rw [e1]
    exact hb
  replace hB := hB.keep hw
  replace hBb := hBb.keep hw
  have hkl := kin_len key
  have hHl := hm_len key bs
  have hbz : ∀ z ∈ bs, 0 ≤ z ∧ z < 256 := by obtain ⟨_, _, _, _, _, h⟩ := hBb; exact h
  have cN := fun (W : World) a b c => a_mnew key W v a b c hcap (by omega)
  have cW := fun (g : Nat) (W : World) (a : W.heap[g]? = some (.cells (mst key []) 64 (0, 0))) b c d e => a_writeR (mrest key) 64 (kin key ++ []) bs g W vb a b c hcapb d e (by rw [List.append_nil]; exact kin_bd key) (by rw [List.append_nil]; omega)
  rw [List.append_nil] at cW
  have cS := fun (g : Nat) (W : World) a b => a_msum key bs g W a b hbz hlimb
  rw [show hsx (mrest key) (kin key ++ bs) = mst key bs from rfl] at cW
  generalize mst key [] = M0 at *
  generalize mst key bs = M1 at *
  generalize hm key bs = H at *
  obtain ⟨ao, cap, rfl, _⟩ := id hB
  obtain ⟨aob, capb, rfl, _⟩ := id hBb
  go_enter Tryd.func17, Tryd.ntmps17
  go_wp2_with (first | (refine wpList_alloc rfl 23 rfl (irow .u8 (zr 32)) zkey ?_) | fail)
  have hs0 := size_alloc1 w (.cells (irow .u8 (zr 32)) 23)
  generalize w.alloc (.cells (irow .u8 (zr 32)) 23) = w0 at *
  refine (cN w0 f0 f4 hB).mono ?_
  rintro e_ w1 ⟨g, rfl, hg, rM, hb⟩
  replace r0 := keep hb r0
  replace hBb := hBb.keep hb
  replace f4 := f4.below hb
  replace hw := Below.after hw hb
  clear hb cN f0 hB
  rw [hs0] at hg
  clear hs0
  go_wp2_with (fail)
  refine (cW g w1 rM hBb (fun a l c h hl => by have := hne a l c h hl; omega) (by omega) f4).mono ?_
  rintro e_ w2 ⟨rfl, r2, hgr⟩
  have l0 := lt_of_row r0
  replace r0 : w2.heap[w.heap.size]? = _ := (hgr.block _ l0 (by intro e; injection e with e; omega)).trans r0
  replace f4 := f4.grown hgr (by omega)
  replace hw := hw.grown hgr hw.size (fun k h => by injection h with h; omega)
  clear hgr cW rM hBb
  go_wp2_with (fail)
  refine (cS g w2 f4 r2).mono ?_
  rintro e_ w3 ⟨rfl, hb⟩
  replace r0 := keep hb r0
  replace hw := Below.after hw hb
  clear hb cS
  go_wp2_with (first | (refine wpList_store_row rfl 23 _ _ rfl (w.heap.size) (irow .u8 H) rfl rfl 23 _ r0 (infok8 _ hHl) (fit32 _ _ (zr_len 32) hHl) (irow_one _ _) ?_) | fail)
  replace r0 := setRow_heap w3 (w.heap.size) _ (irow .u8 H) _ _ r0
  replace hw := below_setRow hw (Nat.le_refl _) (irow .u8 H)
  generalize w3.setRow (w.heap.size) (irow .u8 H) = w9 at *
  exact bodyPost_ret (v := .agg (irow .u8 H)) (results_cell_row Tryd.results17 _ _ (w.heap.size) _ _ _ _ rfl r0 Tryd.underlying23 rfl (infok8 _ hHl)) rfl ⟨rfl, hw⟩
end Go.Proofs.YtkickbgiidhpfaaDoor

namespace Go.Proofs.YtkickbgiidhpfaaDoor
open Go Go.RowKit Go.Sort
attribute [local go_sem] setCell_drewN alloc_drewN

theorem grownT {a b c : World} {g : Nat} (h : a.grownBy b (some g)) (hb : b.grownBy c (some g)) : a.grownBy c (some g) :=
  ⟨hb.os.trans h.os, hb.tape.trans h.tape, hb.output.trans h.output, Nat.le_trans h.size hb.size, fun k hk hn => (hb.block k (Nat.lt_of_lt_of_le hk h.size) hn).trans (h.block k hk hn)⟩
theorem grown_setRow_hi {a b : World} {g n : Nat} (cs : Array Value) (h : a.grownBy b (some g)) (hn : a.heap.size ≤ n) : a.grownBy (b.setRow n cs) (some g) := by
  refine ⟨h.os, h.tape, h.output, ?_, fun k hk hne => ?_⟩
  · have e : (b.setRow n cs).heap.size = b.heap.size := by simp
    rw [e]; exact h.size
  · rw [setRow_other b n k cs (by omega)]
    exact h.block k hk hne
theorem Bys.grown {W W' : World} {v : Value} {bs : List Int} {g : Nat} (h : Bys W v bs) (hb : W.grownBy W' (some g)) (hne : ∀ a l c, v = .slice (some a) l c → 0 < l → a.block ≠ g) : Bys W' v bs := by
  obtain ⟨ao, cap, rfl, hl, hc, hz⟩ := h
  refine ⟨ao, cap, rfl, hl, fun j hj => ?_, hz⟩
  obtain ⟨b, off, rfl, h1, h2⟩ := hc j hj
  have hn : b ≠ g := hne ⟨b, off, none⟩ _ _ rfl (by omega)
  exact ⟨b, off, rfl, Nat.lt_of_lt_of_le h1 hb.size, hb.cell h2 (by intro e; injection e with e; exact hn e)⟩
theorem bys_ne {W : World} {v : Value} {bs : List Int} (h : Bys W v bs) : ∀ a l c, v = .slice (some a) l c → 0 < l → a.block < W.heap.size := by
  rintro a l c rfl hl
  obtain ⟨_, _, e, _, hc, _⟩ := h
  injection e with e1 e2 e3
  obtain ⟨b0, off, e, hb, _⟩ := hc 0 (by omega)
  rw [e] at e1
  injection e1 with e1
  rw [e1]
  exact hb
theorem bys_nil (W : World) : Bys W (.slice none 0 0) [] := ⟨none, 0, rfl, by decide, fun j hj => by simp at hj, by simp⟩
theorem bys_bd {W : World} {v : Value} {bs : List Int} (h : Bys W v bs) : ∀ z ∈ bs, 0 ≤ z ∧ z < 256 := by
  obtain ⟨_, _, _, _, _, h⟩ := h; exact h
theorem bK (cs : Array Value) (W : World) : (Instr.box 23 (.agg cs)).run Tryd.prog W = .ok (.pointer (some ⟨W.heap.size, 0, none⟩)) (W.alloc (.cells cs 23)) := by kernel_rfl
/-- What Expand has written, k pieces behind it. -/
def xout (key info : List Int) (n k : Nat) : List Int := (tall key info k).take n ++ zr (n - 32 * k)
theorem xout_len (key info : List Int) (n k : Nat) : (xout key info n k).length = n := by
  rw [xout, List.length_append, List.length_take, tall_len, zr_len]; omega
theorem xout_step (key info : List Int) (n k : Nat) (h : 32 * k < n) : (xout key info n k).take (32 * k) ++ (tp key info (k + 1)).take (n - 32 * k) ++ (xout key info n k).drop (32 * k + ((tp key info (k + 1)).take (n - 32 * k)).length) = xout key info n (k + 1) := by
  have hl := tall_len key info k
  have hp := tp_len key info k
  have e1 : (tall key info k).take n = tall key info k := List.take_of_length_le (by omega)
  have e2 : (xout key info n k).take (32 * k) = tall key info k := by rw [xout, e1, List.take_left' hl]
  have e3 : ∀ m, (xout key info n k).drop (32 * k + m) = zr (n - 32 * k - m) := fun m => by
    rw [xout, e1, ← hl, ← List.drop_drop, List.drop_left, zr_drop]
  rw [e2, e3, xout, tall, List.take_append, e1, hl, List.length_take, hp]
  congr 2
  omega
theorem xout_end (key info : List Int) (n k : Nat) (hk : k ≤ (n + 31) / 32) (h : ¬ 32 * k < n) : xout key info n k = xpd key info n := by
  obtain rfl : k = (n + 31) / 32 := by omega
  rw [xout, xpd, show n - 32 * ((n + 31) / 32) = 0 by omega]
  simp [zr]
/-- What an answer of Expand or Derive is. -/
def XAns (W : World) (lo : Nat) (v : Value) (key info : List Int) (n : Int) : Prop := (∃ (m : Nat) (g : Nat), n = (m : Int) ∧ m ≤ 8160 ∧ v = .tuple #[.slice (some ⟨g, 0, none⟩) m m, .int .i64 0] ∧ lo ≤ g ∧ W.heap[g]? = some (.cells (irow .u8 (xpd key info m)) 5 (0, 0))) ∨ ((n < 0 ∨ 8160 < n) ∧ v = .tuple #[.slice none 0 0, .int .i64 (if n < 0 then 1 else 2)])
end Go.Proofs.YtkickbgiidhpfaaDoor

namespace Go.Proofs.YtkickbgiidhpfaaDoor
open Go Go.RowKit Go.Sort
attribute [local go_sem] setCell_drewN alloc_drewN

theorem wpList_append_own_want {P : Program} (w : World) {ops : Array Oper} {rest : List Oper} {o : Oper} {a : Act} {Q : Exit → Act → World → Prop} (hw : Region.wanted o (yielded ops a.tmps) = true) (s x : Operand) (t : TypeId)
    (ho : o.op = .call { callee := .builtin .append, args := #[s, x], argTypes := #[t, t] })
    (base : Nat) (e : TypeId) (i : TypeInfo) (z : Value) (ht : P.underlying t = some (.slice e)) (hi : P.info? e = some i) (hz : i.zero = some z)
    (hsize : i.size = 1) (hby : i.bytes = 1) (hzs : z.cells.size = 1)
    (v : Value) (n : Nat) (xs : List Value) (hs : a.eval s = v) (hown : w.ownsRow base e 1 v n xs)
    (ao : Option Addr) (m c : Nat) (news : List Value) (hx : a.eval x = .slice ao m c) (hl : news.length = m * 1) (hnone : ao = none → m = 0 ∧ c = 0) (hnews : ∀ ad, ao = some ad → ∀ j u, news[j]? = some u → w.cell? (ad.add j) = some u) (h1 : ∀ u ∈ news, u.oneCell' = true)
    (h63 : n + m ≤ maxLen) (hbytes : (n + m) * 1 ≤ 140737488355328) (hbase : base ≤ w.heap.size)
    (h : ∀ v' w', w'.ownsRow base e 1 v' (n + m) (xs ++ news) → w.grownBy w' v.ownBlock → wpList P ops Q rest (a.put o.dst v') w') : wpList P ops Q (o :: rest) a w := by
  refine BigFrame.wpList_want hw fun K hK' => ?_
  cases ao with
  | some ad => exact wp_append_own w s x t ho base e i z 1 1 ht hi hz hsize hby hzs (by decide) v n xs hs hown ad m c news hx hl (hnews ad rfl) h1 h63 hbytes hbase (fun v' w' h2 h3 _ => hK' _ _ (h v' w' h2 h3))
  | none =>
    obtain ⟨rfl, rfl⟩ := hnone rfl
    have hn0 : news = [] := List.eq_nil_of_length_eq_zero (by simpa using hl)
    subst hn0
    have hrun := run_append_owned_none (P := P) w base t o.type e i 1 ht hi _ n xs hown
    unfold Oper.wp
    simp [execOp, ho, resolve, invoke, builtin, hs, hx, hrun, Result.andThen]
    exact hK' _ _ (by simpa using h v w (by simpa using hown) (World.grownBy.refl _ _))
/-- Pieces of bytes, as they lie in a world. -/
def Pcs (W : World) (v : Value) (ps : List (List Int)) : Prop := ∃ ao cap, v = .slice ao ps.length cap ∧ ps.length ≤ 9223372036854775807 ∧ ∀ i, i < ps.length → ∃ b off u uc, ao = some ⟨b, off, none⟩ ∧ b < W.heap.size ∧ W.cell? ⟨b, off + i, none⟩ = some (.slice u (ps.getD i []).length uc) ∧ Bys W (.slice u (ps.getD i []).length uc) (ps.getD i []) ∧ (u = none → uc = 0)
/-- Bools, as they lie in a world. -/
def Bls (W : World) (v : Value) (qs : List Bool) : Prop := ∃ ao cap, v = .slice ao qs.length cap ∧ qs.length ≤ 9223372036854775807 ∧ ∀ i, i < qs.length → ∃ b off, ao = some ⟨b, off, none⟩ ∧ b < W.heap.size ∧ W.cell? ⟨b, off + i, none⟩ = some (.bool (qs.getD i false))
def flat (ps : List (List Int)) (k : Nat) : List Int := (ps.take k).flatten
theorem flat_next (ps : List (List Int)) (k : Nat) (hk : k < ps.length) : flat ps (k + 1) = flat ps k ++ ps.getD k [] := by
  unfold flat
  rw [List.take_add_one, List.flatten_append, List.getElem?_eq_getElem hk, List.getD_eq_getElem?_getD, List.getElem?_eq_getElem hk]
  simp
theorem flat_all (ps : List (List Int)) : flat ps ps.length = ps.flatten := by unfold flat; rw [List.take_length]
theorem flat_len (ps : List (List Int)) (k : Nat) : (flat ps k).length ≤ ps.flatten.length := by
  have h := congrArg List.flatten (List.take_append_drop k ps)
  rw [List.flatten_append] at h
  have := congrArg List.length h
  rw [List.length_append] at this
  unfold flat
  omega
theorem nilN (w : World) : BysN w (.slice none 0 0) [] := ⟨⟨none, 0, rfl, by decide, fun j hj => by simp at hj, by simp⟩, by decide, fun a l c h _ => by cases h; rfl⟩
theorem bys_none3 {W : World} {u : Option Addr} {uc : Nat} {bs : List Int} (hB : Bys W (.slice u bs.length uc) bs) (h : u = none → uc = 0) : u = none → bs.length = 0 ∧ uc = 0 := bys_none hB (fun a l c e ha => by injection e with e1 e2 e3; subst e1; rw [← e3]; exact h ha)
set_option maxRecDepth 100000 in
set_option maxHeartbeats 4000000 in
theorem r_joined (ps : List (List Int)) (w : World) (vp : Value) (hP : Pcs w vp ps) (hsz : ps.flatten.length ≤ 140737488355328) : Calls Tryd.prog 24 #[vp] w fun e w' => ∃ v, e = .returned v ∧ w'.ownsRow w.heap.size 5 1 v ps.flatten.length (ps.flatten.map (Value.int .u8)) ∧ Below w.heap.size w w' := by
  obtain ⟨pao, pcap, rfl, hpl, hpc⟩ := hP
  have hfl := flat_len ps
  have hfn := flat_next ps
  have hfa := flat_all ps
  obtain ⟨i0, hi, hz0, hz1, hz2⟩ := info8
  have hown0 : w.ownsRow w.heap.size 5 1 (.slice none 0 0) (flat ps 0).length ((flat ps 0).map (Value.int .u8)) := ⟨rfl, .inl ⟨rfl, rfl⟩⟩
  generalize enp : ps.length = np at *
  go_enter Tryd.func24, Tryd.ntmps24
  go_wp2_with (fail)
  go_loopw [3, 4] (fun x i wr => ∃ k : Nat, k ≤ np ∧ i = .int .i64 k ∧ wr.ownsRow w.heap.size 5 1 x (flat ps k).length ((flat ps k).map (Value.int .u8)) ∧ Below w.heap.size w wr) (fun _ i _ => np - (intOf i).toNat)
  case atStart => exact ⟨0, by omega, rfl, hown0, Below.refl _ _⟩
  case round =>
    clear hown0
    obtain ⟨k, hk, rfl, hown, hw⟩ := hrel
    obtain ⟨aox, capx, rfl⟩ := slen_own hown
    by_cases hlt : k < np
    · have hd : decide ((k : Int) < (np : Int)) = true := by simp; omega
      obtain ⟨b, off, u, uc, rfl, hb, hcell, hBk, hnu⟩ := hpc k hlt
      replace hcell := (hw.cell (p := ⟨b, off + k, none⟩) hb).trans hcell
      replace hBk := hBk.keep hw
      have hnone := bys_none3 hBk hnu
      have hnews := bys_cells hBk
      have h1 := hfl (k + 1)
      rw [hfn k (by omega), List.length_append] at h1
      have hfk := hfn k (by omega)
      clear hpc hfl hfn hBk
      generalize ps.getD k [] = P at *
      go_wp2_with (at_builtin; refine wpList_append_own_any _ rfl (.tmp 11) (.tmp 15) 54 rfl w.heap.size 5 i0 (.int .u8 0) Tryd.underlying54 hi hz0 hz1 hz2 rfl _ (flat ps k).length ((flat ps k).map (Value.int .u8)) rfl hown u P.length uc (P.map (Value.int .u8)) rfl (by simp) hnone hnews (ints_one .u8 _) (by unfold maxLen; omega) (by omega) hw.size ?_)
      intro v' w2 hown2 hgrow
      replace hw := hw.grown hgrow hw.size (fun k h => (hown.lt k h).1)
      rw [← List.map_append, ← List.length_append, ← hfk] at hown2
      clear hown hgrow
      obtain ⟨ao', cap', rfl⟩ := slen_own hown2
      go_wp2
      refine ⟨⟨k + 1, by omega, by go_num, hown2, hw⟩, ?_⟩
      simp [intOf]; omega
    · obtain rfl : k = np := by omega
      have hd : decide ((k : Int) < (k : Int)) = false := by simp
      replace hfa := hide hfa
      go_wp2
      go_ret
      rw [← hfa.out]
      exact ⟨_, rfl, hown, hw⟩
end Go.Proofs.YtkickbgiidhpfaaDoor

namespace Go.Proofs.YtkickbgiidhpfaaDoor
open Go Go.RowKit Go.Sort
attribute [local go_sem] setCell_drewN alloc_drewN

theorem zr_get (n j : Nat) : (zr n).getD j 0 = 0 := by
  rw [List.getD_eq_getElem?_getD]
  simp only [zr, List.getElem?_replicate]
  split <;> rfl
theorem getD_set_self (l : List Int) (j : Nat) (z : Int) (h : j < l.length) : (l.set j z).getD j 0 = z := by
  rw [List.getD_eq_getElem?_getD, List.getElem?_set_self h]; rfl
theorem cell_other (w : World) (a b : Addr) (v : Value) (h : b.block ≠ a.block) : (w.setCell a v).cell? b = w.cell? b := by
  simp only [World.cell?]
  rw [heap_setCell_other w a b.block v h]
set_option maxRecDepth 100000 in
set_option maxHeartbeats 4000000 in
theorem r_blockKey (key : List Int) (x : Int) (w : World) (v : Value) (hN : BysM w v key) : Calls Tryd.prog 25 #[v, .int .u8 x] w fun e w' => ∃ vr g, e = .returned vr ∧ vr = .slice (some ⟨g, 0, none⟩) 64 64 ∧ w.heap.size ≤ g ∧ w'.heap[g]? = some (.cells (irow .u8 (xl (kb64 key) x)) 5 (0, 0)) ∧ Below w.heap.size w w' := by
  have hmk : (Instr.makeSlice 54 (.int .i64 64) (.int .i64 64)).run Tryd.prog w = .ok (.slice (some ⟨w.heap.size, 0, none⟩) 64 64) (w.alloc (.cells (irow .u8 (zr 64)) 5)) := make_i64 64 (by decide) w
  have r0 := hp1_0 w (.cells (irow .u8 (zr 64)) 5)
  have hw : Below w.heap.size w (w.alloc (.cells (irow .u8 (zr 64)) 5)) := (Below.refl _ _).alloc (Nat.le_refl _) _
  have hne := bys_ne hN.1
  replace hN := hN.keep hw
  have hs0 := size_alloc1 w (.cells (irow .u8 (zr 64)) 5)
  by_cases hlong : 64 < key.length
  · have hd : decide ((64 : Int) < (key.length : Int)) = true := by simp; omega
    have hK : ksh key = sumL key := by rw [ksh, if_pos hlong]
    have hSl := sumL_len key
    have hSb := sumL_bd key
    rw [← hK] at hSl hSb
    have cS := fun (W : World) a => r_sumM key W v a
    rw [← hK] at cS
    clear hK
    obtain ⟨ao, cap, rfl, _⟩ := id hN.1
    go_enter Tryd.func25, Tryd.ntmps25
    go_wp2_with (fail)
    generalize w.alloc (.cells (irow .u8 (zr 64)) 5) = w0 at *
    refine (cS w0 hN).mono ?_
    rintro e_ w1 ⟨rfl, hb⟩
    replace r0 := keep hb r0
    replace hw := Below.after hw hb
    clear hb cS hN hs0
    have l0 := lt_of_row r0
    have r1 := hp1_0 w1 (.cells (irow .u8 (ksh key)) 23)
    have hba : Below w1.heap.size w1 (w1.alloc (.cells (irow .u8 (ksh key)) 23)) := (Below.refl _ _).alloc (Nat.le_refl _) _
    replace r0 := keep hba r0
    replace hw := Below.after hw hba
    have hBk := Bys.of_row r1 (by omega) hSb 32
    rw [hSl] at hBk
    have hnk : ∀ a : Addr, some (⟨w1.heap.size, 0, none⟩ : Addr) = some a → 0 < (ksh key).length → a.block ≠ w.heap.size := fun a h _ => by cases h; show w1.heap.size ≠ w.heap.size; omega
    clear hba r1
    go_wp2_with (first | (refine wpList_alloc rfl 23 rfl (irow .u8 (zr 32)) zkey ?_) | (refine wpList_store_row rfl 23 _ _ rfl (w1.heap.size) (irow .u8 (ksh key)) rfl rfl 23 _ (hp1_0 w1 _) (infok8 _ hSl) (fit32 _ _ (zr_len 32) hSl) (irow_one _ _) ?_; rw [setRow_alloc_new _ _ _ _ _ _ rfl]) | fail)
    generalize w1.alloc (.cells (irow .u8 (ksh key)) 23) = w2 at *
    generalize w1.heap.size = G1 at *
    have eN := hSl
    have hc : ∀ i, i < 32 → ∃ b off, some (⟨G1, 0, none⟩ : Addr) = some ⟨b, off, none⟩ ∧ b < w2.heap.size ∧ w2.cell? ⟨b, off + i, none⟩ = some (.int .u8 ((ksh key).getD i 0)) := by
      obtain ⟨ak, ck, ek, _, hc, _⟩ := hBk
      injection ek with ek1
      rw [ek1]
      rw [hSl] at hc
      exact hc
    have hKl : (ksh key).length ≤ 64 := ksh_len key
    have hget := kb64_get key
    have hkl := kb64_len key
    have hxl := xl_len (kb64 key) x
    have hxg := xl_get (kb64 key) x
    have hz64 := zr_len 64
    have hzg := zr_get 64
    rw [← mix_zero (xl (kb64 key) x) (zr 64)] at r0
    rw [eN] at hKl
    go_wp2
    go_loopw [8] (fun i wr => ∃ j : Nat, j ≤ 64 ∧ i = .int .i64 j ∧ wr.heap[w.heap.size]? = some (.cells (irow .u8 (mix (xl (kb64 key) x) (zr 64) j)) 5 (0, 0)) ∧ (∀ i, i < 32 → ∃ b off, some (⟨G1, 0, none⟩ : Addr) = some ⟨b, off, none⟩ ∧ b ≠ w.heap.size ∧ wr.cell? ⟨b, off + i, none⟩ = some (.int .u8 ((ksh key).getD i 0))) ∧ Below w.heap.size w wr) (fun i _ => 64 - (intOf i).toNat)
    case atStart => exact ⟨0, by omega, rfl, r0, (fun i hi => by obtain ⟨b, off, e, _, h⟩ := hc i hi; exact ⟨b, off, e, hnk ⟨b, off, none⟩ e (by omega), h⟩), hw⟩
    case round =>
      clear r0 hw hc
      obtain ⟨j, hj, rfl, r0, hc, hw⟩ := hrel
      by_cases hlt : j < 64
      · have hd : decide ((j : Int) < 64) = true := by simp; omega
        have hset := mix_set (xl (kb64 key) x) (zr 64) j (by rw [hxl, hkl, hz64]) (by omega)
        have hml := mix_length (xl (kb64 key) x) (zr 64) j (by rw [hxl, hkl, hz64]) (by omega)
        have hmg := mix_get (xl (kb64 key) x) (zr 64) j (by rw [hxl, hkl, hz64]) (by omega)
        rw [hxg j (by omega), hget j] at hset
        rw [hzg j] at hmg
        rw [hz64] at hml
        have c0 := irow_cell r0 (j := j) (by omega)
        rw [hmg] at c0
        have cf := row_frozen r0 j
        by_cases hin : j < 32
        · have hd2 : decide ((j : Int) < 32) = true := by simp; omega
          obtain ⟨b, off, eb, hbn, ck1⟩ := hc j hin
          cases eb
          try rw [Nat.zero_add] at ck1
          have r1 := irow_set r0 j ((ksh key).getD j 0)
          have c1 := irow_cell r1 (j := j) (by rw [List.length_set]; omega)
          rw [getD_set_self _ _ _ (by omega)] at c1
          have cf1 := row_frozen r1 j
          have r2 := irow_set r1 j (bits .xor .u8 ((ksh key).getD j 0) x)
          rw [List.set_set, hset] at r2
          have hc2 : ∀ i, i < 32 → ∃ b_ off_, some (⟨G1, 0, none⟩ : Addr) = some ⟨b_, off_, none⟩ ∧ b_ ≠ w.heap.size ∧ ((wr.setCell ⟨w.heap.size, j, none⟩ (.int .u8 ((ksh key).getD j 0))).setCell ⟨w.heap.size, j, none⟩ (.int .u8 (bits .xor .u8 ((ksh key).getD j 0) x))).cell? ⟨b_, off_ + i, none⟩ = some (.int .u8 ((ksh key).getD i 0)) := fun i hi => by
            obtain ⟨b', off', e, hbn', h⟩ := hc i hi
            refine ⟨b', off', e, hbn', ?_⟩
            rw [cell_other _ _ _ _ (by simp; omega), cell_other _ _ _ _ (by simp; omega)]
            exact h
          have hw' := (hw.setCell (show w.heap.size ≤ (⟨w.heap.size, j, none⟩ : Addr).block from Nat.le_refl _) (.int .u8 ((ksh key).getD j 0))).setCell (show w.heap.size ≤ (⟨w.heap.size, j, none⟩ : Addr).block from Nat.le_refl _) (.int .u8 (bits .xor .u8 ((ksh key).getD j 0) x))
          clear hset hmg hget hxg r0 r1 hw hc
          generalize (ksh key).getD j 0 = z at *
          go_wp2
          refine ⟨⟨j + 1, by omega, by go_num, r2, hc2, hw'⟩, ?_⟩
          simp [intOf]; omega
        · have hd2 : decide ((j : Int) < 32) = false := by simp; omega
          have e0 : (ksh key).getD j 0 = 0 := by rw [List.getD_eq_getElem?_getD, List.getElem?_eq_none (by omega)]; rfl
          rw [e0] at hset
          have r2 := irow_set r0 j (bits .xor .u8 0 x)
          rw [hset] at r2
          have hc2 : ∀ i, i < 32 → ∃ b_ off_, some (⟨G1, 0, none⟩ : Addr) = some ⟨b_, off_, none⟩ ∧ b_ ≠ w.heap.size ∧ (wr.setCell ⟨w.heap.size, j, none⟩ (.int .u8 (bits .xor .u8 0 x))).cell? ⟨b_, off_ + i, none⟩ = some (.int .u8 ((ksh key).getD i 0)) := fun i hi => by
            obtain ⟨b', off', e, hbn', h⟩ := hc i hi
            refine ⟨b', off', e, hbn', ?_⟩
            rw [cell_other _ _ _ _ (by simp; omega)]
            exact h
          have hw' := hw.setCell (show w.heap.size ≤ (⟨w.heap.size, j, none⟩ : Addr).block from Nat.le_refl _) (.int .u8 (bits .xor .u8 0 x))
          clear hset hmg hget hxg r0 hw hc e0
          go_wp2
          refine ⟨⟨j + 1, by omega, by go_num, r2, hc2, hw'⟩, ?_⟩
          simp [intOf]; omega
      · obtain rfl : j = 64 := by omega
        have hd : decide ((64 : Int) < 64) = false := by decide
        have e64 : mix (xl (kb64 key) x) (zr 64) 64 = xl (kb64 key) x := mix_all _ (zr 64) (by rw [hxl, hkl, hz64])
        rw [e64] at r0
        go_wp2
        go_ret
        exact ⟨_, _, rfl, rfl, Nat.le_refl _, r0, hw⟩
  · have hd : decide ((64 : Int) < (key.length : Int)) = false := by simp; omega
    have hK : ksh key = key := by rw [ksh, if_neg hlong]
    have hBk := hN.1
    obtain ⟨ao, cap, rfl, _⟩ := id hN.1
    have hnk : ∀ a : Addr, ao = some a → 0 < (ksh key).length → a.block ≠ w.heap.size := fun a h hl => by
      rw [hK] at hl
      have := hne a _ _ (by rw [h]) hl
      omega
    have eN : (ksh key).length = key.length := by rw [hK]
    have hc : ∀ i, i < key.length → ∃ b off, ao = some ⟨b, off, none⟩ ∧ b < (w.alloc (.cells (irow .u8 (zr 64)) 5)).heap.size ∧ (w.alloc (.cells (irow .u8 (zr 64)) 5)).cell? ⟨b, off + i, none⟩ = some (.int .u8 ((ksh key).getD i 0)) := by
      obtain ⟨ak, ck, ek, _, hc, _⟩ := hBk
      injection ek with ek1
      rw [ek1, hK]
      exact hc
    clear hK hBk hN hne
    generalize key.length = N at *
    go_enter Tryd.func25, Tryd.ntmps25
    go_wp2_with (fail)
    generalize w.alloc (.cells (irow .u8 (zr 64)) 5) = w2 at *
    have hKl : (ksh key).length ≤ 64 := ksh_len key
    have hget := kb64_get key
    have hkl := kb64_len key
    have hxl := xl_len (kb64 key) x
    have hxg := xl_get (kb64 key) x
    have hz64 := zr_len 64
    have hzg := zr_get 64
    rw [← mix_zero (xl (kb64 key) x) (zr 64)] at r0
    rw [eN] at hKl
    go_wp2
    go_loopw [8] (fun i wr => ∃ j : Nat, j ≤ 64 ∧ i = .int .i64 j ∧ wr.heap[w.heap.size]? = some (.cells (irow .u8 (mix (xl (kb64 key) x) (zr 64) j)) 5 (0, 0)) ∧ (∀ i, i < N → ∃ b off, ao = some ⟨b, off, none⟩ ∧ b ≠ w.heap.size ∧ wr.cell? ⟨b, off + i, none⟩ = some (.int .u8 ((ksh key).getD i 0))) ∧ Below w.heap.size w wr) (fun i _ => 64 - (intOf i).toNat)
    case atStart => exact ⟨0, by omega, rfl, r0, (fun i hi => by obtain ⟨b, off, e, _, h⟩ := hc i hi; exact ⟨b, off, e, hnk ⟨b, off, none⟩ e (by omega), h⟩), hw⟩
    case round =>
      clear r0 hw hc
      obtain ⟨j, hj, rfl, r0, hc, hw⟩ := hrel
      by_cases hlt : j < 64
      · have hd : decide ((j : Int) < 64) = true := by simp; omega
        have hset := mix_set (xl (kb64 key) x) (zr 64) j (by rw [hxl, hkl, hz64]) (by omega)
        have hml := mix_length (xl (kb64 key) x) (zr 64) j (by rw [hxl, hkl, hz64]) (by omega)
        have hmg := mix_get (xl (kb64 key) x) (zr 64) j (by rw [hxl, hkl, hz64]) (by omega)
        rw [hxg j (by omega), hget j] at hset
        rw [hzg j] at hmg
        rw [hz64] at hml
        have c0 := irow_cell r0 (j := j) (by omega)
        rw [hmg] at c0
        have cf := row_frozen r0 j
        by_cases hin : j < N
        · have hd2 : decide ((j : Int) < (N : Int)) = true := by simp; omega
          obtain ⟨b, off, eb, hbn, ck1⟩ := hc j hin
          subst eb
          try rw [Nat.zero_add] at ck1
          have r1 := irow_set r0 j ((ksh key).getD j 0)
          have c1 := irow_cell r1 (j := j) (by rw [List.length_set]; omega)
          rw [getD_set_self _ _ _ (by omega)] at c1
          have cf1 := row_frozen r1 j
          have r2 := irow_set r1 j (bits .xor .u8 ((ksh key).getD j 0) x)
          rw [List.set_set, hset] at r2
          have hc2 : ∀ i, i < N → ∃ b_ off_, some (⟨b, off, none⟩ : Addr) = some ⟨b_, off_, none⟩ ∧ b_ ≠ w.heap.size ∧ ((wr.setCell ⟨w.heap.size, j, none⟩ (.int .u8 ((ksh key).getD j 0))).setCell ⟨w.heap.size, j, none⟩ (.int .u8 (bits .xor .u8 ((ksh key).getD j 0) x))).cell? ⟨b_, off_ + i, none⟩ = some (.int .u8 ((ksh key).getD i 0)) := fun i hi => by
            obtain ⟨b', off', e, hbn', h⟩ := hc i hi
            refine ⟨b', off', e, hbn', ?_⟩
            rw [cell_other _ _ _ _ (by simp; omega), cell_other _ _ _ _ (by simp; omega)]
            exact h
          have hw' := (hw.setCell (show w.heap.size ≤ (⟨w.heap.size, j, none⟩ : Addr).block from Nat.le_refl _) (.int .u8 ((ksh key).getD j 0))).setCell (show w.heap.size ≤ (⟨w.heap.size, j, none⟩ : Addr).block from Nat.le_refl _) (.int .u8 (bits .xor .u8 ((ksh key).getD j 0) x))
          clear hset hmg hget hxg r0 r1 hw hc
          generalize (ksh key).getD j 0 = z at *
          go_wp2
          refine ⟨⟨j + 1, by omega, by go_num, r2, hc2, hw'⟩, ?_⟩
          simp [intOf]; omega
        · have hd2 : decide ((j : Int) < (N : Int)) = false := by simp; omega
          have e0 : (ksh key).getD j 0 = 0 := by rw [List.getD_eq_getElem?_getD, List.getElem?_eq_none (by omega)]; rfl
          rw [e0] at hset
          have r2 := irow_set r0 j (bits .xor .u8 0 x)
          rw [hset] at r2
          have hc2 : ∀ i, i < N → ∃ b_ off_, ao = some ⟨b_, off_, none⟩ ∧ b_ ≠ w.heap.size ∧ (wr.setCell ⟨w.heap.size, j, none⟩ (.int .u8 (bits .xor .u8 0 x))).cell? ⟨b_, off_ + i, none⟩ = some (.int .u8 ((ksh key).getD i 0)) := fun i hi => by
            obtain ⟨b', off', e, hbn', h⟩ := hc i hi
            refine ⟨b', off', e, hbn', ?_⟩
            rw [cell_other _ _ _ _ (by simp; omega)]
            exact h
          have hw' := hw.setCell (show w.heap.size ≤ (⟨w.heap.size, j, none⟩ : Addr).block from Nat.le_refl _) (.int .u8 (bits .xor .u8 0 x))
          clear hset hmg hget hxg r0 hw hc e0
          go_wp2
          refine ⟨⟨j + 1, by omega, by go_num, r2, hc2, hw'⟩, ?_⟩
          simp [intOf]; omega
      · obtain rfl : j = 64 := by omega
        have hd : decide ((64 : Int) < 64) = false := by decide
        have e64 : mix (xl (kb64 key) x) (zr 64) 64 = xl (kb64 key) x := mix_all _ (zr 64) (by rw [hxl, hkl, hz64])
        rw [e64] at r0
        go_wp2
        go_ret
        exact ⟨_, _, rfl, rfl, Nat.le_refl _, r0, hw⟩

end Go.Proofs.YtkickbgiidhpfaaDoor
