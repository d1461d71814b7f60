import Derived.Test.YtkpjpdlamojejaaDoorProg
import Derived.WalkKit
import Derived.WalkSpells
import Derived.WalkLawsBesides
import Derived.Lib.QuietBelow
import Derived.BigQuiet
import Derived.Test.YtkpjpdlamojejaaDoorKa
import Derived.Test.YtkpjpdlamojejaaDoorSgm
namespace Go.Proofs.YtkpjpdlamojejaaDoor
set_option maxRecDepth 100000
open Go Go.RowKit Go.Sort
attribute [local go_sem] setCell_drewN alloc_drewN

theorem foldl_ovw (off : Nat) : ∀ (vs : List Value) (k : Nat) (cs : Array Value), (vs.zipIdx k).foldl (fun cs (x : Value × Nat) => cs.setIfInBounds (off + x.2) x.1) cs = ovw cs (off + k) vs
  | [], _, _ => rfl
  | v :: r, k, cs => by
    rw [List.zipIdx_cons, List.foldl_cons, foldl_ovw off r (k + 1), ovw]
    rfl
theorem fill_agg (place : Nat → Option (Nat × Nat)) (cs a : Array Value) (i off : Nat) (rest : List (Nat × Value)) (hp : place i = some (off, a.size)) (hf : off + a.size ≤ cs.size) : Instr.fill place cs ((i, .agg a) :: rest) = Instr.fill place (ovw cs off a.toList) rest := by
  rw [Instr.fill, hp]
  have h1 : (Value.agg a).cells = a := rfl
  simp only [h1]
  rw [if_neg (by simp; omega)]
  congr 1
  have h2 := foldl_ovw off a.toList 0 cs
  rw [Nat.add_zero] at h2
  rw [← h2, ← Array.foldl_toList, Array.toList_zipIdx]
theorem ovw_size : ∀ (vs : List Value) (cs : Array Value) (o : Nat), (ovw cs o vs).size = cs.size
  | [], _, _ => rfl
  | v :: r, cs, o => by rw [ovw, ovw_size r, Array.size_setIfInBounds]
theorem mac_fill (parts : List (Nat × Value)) : Tryd.prog.built 93 parts = Instr.fill (#[(0, 73), (73, 73), (146, 73)][·]?) ((hcells (zr 8) (zr 64) 0).toList ++ ((hcells (zr 8) (zr 64) 0).toList ++ (hcells (zr 8) (zr 64) 0).toList)).toArray parts := by kernel_rfl
theorem z73 : (hcells (zr 8) (zr 64) 0).size = 73 := rfl
theorem mac_built (key : List Int) : Tryd.prog.built 93 [(1, .agg (hst (kin key))), (2, .agg (hst (kout key)))] = some (mcl (hcells (zr 8) (zr 64) 0) key) := by
  have h1 := hst_size (kin key)
  have h2 := hst_size (kout key)
  have h0 := z73
  rw [mac_fill]
  unfold mcl mrest
  generalize hst (kin key) = A at *
  generalize hst (kout key) = B at *
  generalize hcells (zr 8) (zr 64) 0 = Z at *
  rw [fill_agg _ _ A 1 73 _ (by rw [h1]; rfl) (by simp [h0, h1]), fill_agg _ _ B 2 146 _ (by rw [h2]; rfl) (by rw [ovw_size]; simp [h0, h2]), Instr.fill]
  congr 1
  apply Array.ext'
  rw [ovw_list _ _ _ (by rw [ovw_size]; simp [h0, h2]), ovw_list _ _ _ (by simp [h0, h1])]
  have e0 : Z.toList.length = 73 := by rw [Array.length_toList, h0]
  have e1 : A.toList.length = 73 := by rw [Array.length_toList, h1]
  have e2 : B.toList.length = 73 := by rw [Array.length_toList, h2]
  simp only [e1, e2]
  rw [List.take_left' e0]
  rw [← List.append_assoc Z.toList Z.toList, List.drop_left' (show (Z.toList ++ Z.toList).length = 73 + 73 by rw [List.length_append, e0])]
  rw [List.take_left' (show (Z.toList ++ A.toList).length = 146 by rw [List.length_append, e0, e1]), List.drop_eq_nil_of_le (by simp only [List.length_append, e0, e1]; decide)]
  simp
theorem bM (cs : Array Value) (W : World) : (Instr.box 93 (.agg cs)).run Tryd.prog W = .ok (.pointer (some ⟨W.heap.size, 0, none⟩)) (W.alloc (.cells cs 93)) := by kernel_rfl
set_option maxRecDepth 100000 in
set_option maxHeartbeats 4000000 in
theorem a_mnew (key : List Int) (w : World) (v : Value) (hS : Sta w) (hK : Kon w) (hB : Bys w v key) (hcap : ∀ a l c, v = .slice a l c → l ≤ c) (hlim : key.length ≤ 4611686018427387000) : Calls Tryd.prog 24 #[v] w fun e w' => ∃ g, e = .returned (.pointer (some ⟨g, 0, none⟩)) ∧ w.heap.size ≤ g ∧ w'.heap[g]? = some (.cells (mst key []) 93 (0, 0)) ∧ Below w.heap.size w w' := by
  have cK := a_blockKey key w v hS hK hB hcap hlim
  have hkl := kb64_len key
  have hbt := mac_built key
  have b1 := a_begun (kb64 key) hkl 54
  have b2 := a_begun (kb64 key) hkl 92
  rw [show xl (kb64 key) 54 = kin key from rfl] at b1
  rw [show xl (kb64 key) 92 = kout key from rfl] at b2
  have cR := fun (g : Nat) (W : World) r => a_mresetH (hcells (zr 8) (zr 64) 0) z73 key g W r
  generalize kb64 key = KB at *
  generalize mst key [] = M at *
  generalize mcl (hcells (zr 8) (zr 64) 0) key = M0 at *
  generalize hst (kin key) = A at *
  generalize hst (kout key) = B at *
  go_enter Tryd.func24, Tryd.ntmps24
  go_wp2_with (fail)
  refine cK.mono ?_
  rintro e_ w1 ⟨rfl, hw⟩
  clear cK
  have f0 := hS.below hw
  have f4 := hK.below hw
  have r1 := hp1_0 w1 (.cells (irow .u8 KB) 85)
  have hba : Below w1.heap.size w1 (w1.alloc (.cells (irow .u8 KB) 85)) := (Below.refl _ _).alloc (Nat.le_refl _) _
  replace f0 := f0.below hba
  replace f4 := f4.below hba
  have hs1 := hw.size
  replace hw := Below.after hw hba
  clear hba
  go_wp2_with (first | (refine wpList_alloc rfl 85 rfl (irow .u8 (zr 64)) z24 ?_) | (refine wpList_store_row rfl 85 _ _ rfl (w1.heap.size) (irow .u8 KB) rfl rfl 85 _ (hp1_0 w1 _) (info64 _ hkl) (fit64 _ _ (zr_len 64) hkl) (irow_one _ _) ?_; rw [setRow_alloc_new _ _ _ _ _ _ rfl]) | fail)
  generalize w1.alloc (.cells (irow .u8 KB) 85) = w2 at *
  generalize w1.heap.size = G1 at *
  refine wp_region_alloc_ex 5 5 [] (fun _ => .cells #[] 0 (0, 0)) (by kernel_rfl) (by decide) (by decide) (by kernel_rfl) (by kernel_rfl) (by kernel_rfl) (by kernel_rfl) (by kernel_rfl) (by kernel_rfl) (by kernel_rfl) (by kernel_rfl) (by decide) (by decide) ?_ ?_
  · intro s l u
    omega
  apply Exists.intro
  constructor
  · intro v_ hb
    have H1 := keepr (keep hb r1)
    have F0 := f0.below hb
    have F4 := f4.below hb
    clear hb; dsimp only [List.take]
    refine wpQuiet_load_row rfl 85 _ rfl G1 rfl 85 (irow .u8 KB) (0, 0) _ H1.out Tryd.underlying85 rfl (info64 _ hkl) ?_
    simp only [Act.put, List.setIfInBounds_toArray, List.set_cons_succ, List.set_cons_zero]
    go_big_quiet_step (exact b1.re F0 F4)
    refine wpQuiet_load_row rfl 85 _ rfl G1 rfl 85 (irow .u8 KB) (0, 0) _ H1.out Tryd.underlying85 rfl (info64 _ hkl) ?_
    simp only [Act.put, List.setIfInBounds_toArray, List.set_cons_succ, List.set_cons_zero]
    go_big_quiet_step (exact b2.re F0 F4)
    refine wpQuiet_build rfl 93 _ rfl [(1, .agg A), (2, .agg B)] rfl M0 hbt ?_
    simp only [Act.put, List.setIfInBounds_toArray, List.set_cons_succ, List.set_cons_zero]
    refine wpQuiet_nil ?_
    rfl
  intro w3 g_ hb _ _
  simp only [List.drop, puts, ptrs, List.map, List.foldl, Act.put]
  have hs2 := hw.size
  have hs3 := hb.size
  replace hw := Below.after hw hb
  have hba : Below w3.heap.size w3 (w3.alloc (.cells M0 93)) := (Below.refl _ _).alloc (Nat.le_refl _) _
  have r3 := hp1_0 w3 (.cells M0 93)
  replace hw := Below.after hw hba
  clear hba hb f0 f4 r1
  go_wp2_with (first | (refine wpList_box rfl 93 _ rfl _ rfl (bM _) ?_) | fail)
  generalize w3.alloc (.cells M0 93) = w4 at *
  refine (cR _ w4 r3).mono ?_
  rintro e_ w5 ⟨rfl, r5, hgr⟩
  replace hw := hw.grown hgr hw.size (fun k h => by injection h with h; omega)
  go_wp2
  go_ret
  exact ⟨_, rfl, by omega, r5, hw⟩
set_option maxRecDepth 100000 in
set_option maxHeartbeats 4000000 in
theorem a_macSum (key bs : List Int) (w : World) (v vb : Value) (hS : Sta w) (hK : Kon w) (hB : Bys w v key) (hcap : ∀ a l c, v = .slice a l c → l ≤ c) (hlim : key.length ≤ 4611686018427380000) (hBb : Bys w vb bs) (hcapb : ∀ a l c, vb = .slice a l c → l ≤ c) (hlimb : bs.length ≤ 4611686018427380000) : Calls Tryd.prog 26 #[v, vb] w fun e w' => e = .returned (.agg (irow .u8 (hm key bs))) ∧ Below w.heap.size w w' := by
  have r0 := hp1_0 w (.cells (irow .u8 (zr 32)) 23)
  have hw : Below w.heap.size w (w.alloc (.cells (irow .u8 (zr 32)) 23)) := (Below.refl _ _).alloc (Nat.le_refl _) _
  have f0 := hS.below hw
  have f4 := hK.below hw
  have hk1 := hK.sz
  have hne : ∀ a l c, vb = .slice (some a) l c → 0 < l → a.block < w.heap.size := by
    rintro a l c rfl hl
    obtain ⟨_, _, e, _, hc, _⟩ := hBb
    injection e with e1 e2 e3
    obtain ⟨b0, off, e, hb, _⟩ := hc 0 (by omega)
    rw [e] at e1
    injection e1 with e1
    rw [e1]
    exact hb
  replace hB := hB.keep hw
  replace hBb := hBb.keep hw
  have hkl := kin_len key
  have hHl := hm_len key bs
  have hbz : ∀ z ∈ bs, 0 ≤ z ∧ z < 256 := by obtain ⟨_, _, _, _, _, h⟩ := hBb; exact h
  have cN := fun (W : World) a b c => a_mnew key W v a b c hcap (by omega)
  have cW := fun (g : Nat) (W : World) (a : W.heap[g]? = some (.cells (mst key []) 93 (0, 0))) b c d e => a_writeR (mrest key) 93 (kin key ++ []) bs g W vb a b c hcapb d e (by rw [List.append_nil]; exact kin_bd key) (by rw [List.append_nil]; omega)
  rw [List.append_nil] at cW
  have cS := fun (g : Nat) (W : World) a b => a_msum key bs g W a b hbz hlimb
  rw [show hsx (mrest key) (kin key ++ bs) = mst key bs from rfl] at cW
  generalize mst key [] = M0 at *
  generalize mst key bs = M1 at *
  generalize hm key bs = H at *
  obtain ⟨ao, cap, rfl, _⟩ := id hB
  obtain ⟨aob, capb, rfl, _⟩ := id hBb
  go_enter Tryd.func26, Tryd.ntmps26
  go_wp2_with (first | (refine wpList_alloc rfl 23 rfl (irow .u8 (zr 32)) zkey ?_) | fail)
  have hs0 := size_alloc1 w (.cells (irow .u8 (zr 32)) 23)
  generalize w.alloc (.cells (irow .u8 (zr 32)) 23) = w0 at *
  refine (cN w0 f0 f4 hB).mono ?_
  rintro e_ w1 ⟨g, rfl, hg, rM, hb⟩
  replace r0 := keep hb r0
  replace hBb := hBb.keep hb
  replace f4 := f4.below hb
  replace hw := Below.after hw hb
  clear hb cN f0 hB
  rw [hs0] at hg
  clear hs0
  go_wp2_with (fail)
  refine (cW g w1 rM hBb (fun a l c h hl => by have := hne a l c h hl; omega) (by omega) f4).mono ?_
  rintro e_ w2 ⟨rfl, r2, hgr⟩
  have l0 := lt_of_row r0
  replace r0 : w2.heap[w.heap.size]? = _ := (hgr.block _ l0 (by intro e; injection e with e; omega)).trans r0
  replace f4 := f4.grown hgr (by omega)
  replace hw := hw.grown hgr hw.size (fun k h => by injection h with h; omega)
  clear hgr cW rM hBb
  go_wp2_with (fail)
  refine (cS g w2 f4 r2).mono ?_
  rintro e_ w3 ⟨rfl, hb⟩
  replace r0 := keep hb r0
  replace hw := Below.after hw hb
  clear hb cS
  go_wp2_with (first | (refine wpList_store_row rfl 23 _ _ rfl (w.heap.size) (irow .u8 H) rfl rfl 23 _ r0 (infok8 _ hHl) (fit32 _ _ (zr_len 32) hHl) (irow_one _ _) ?_) | fail)
  replace r0 := setRow_heap w3 (w.heap.size) _ (irow .u8 H) _ _ r0
  replace hw := below_setRow hw (Nat.le_refl _) (irow .u8 H)
  generalize w3.setRow (w.heap.size) (irow .u8 H) = w9 at *
  exact bodyPost_ret (v := .agg (irow .u8 H)) (results_cell_row Tryd.results26 _ _ (w.heap.size) _ _ _ _ rfl r0 Tryd.underlying23 rfl (infok8 _ hHl)) rfl ⟨rfl, hw⟩
set_option maxRecDepth 100000 in
set_option maxHeartbeats 4000000 in
theorem a_extract (key bs : List Int) (w : World) (v vb : Value) (hS : Sta w) (hK : Kon w) (hB : Bys w v key) (hcap : ∀ a l c, v = .slice a l c → l ≤ c) (hlim : key.length ≤ 4611686018427380000) (hBb : Bys w vb bs) (hcapb : ∀ a l c, vb = .slice a l c → l ≤ c) (hlimb : bs.length ≤ 4611686018427380000) : Calls Tryd.prog 15 #[v, vb] w fun e w' => e = .returned (.agg (irow .u8 (hm key bs))) ∧ Below w.heap.size w w' := by
  have r0 := hp1_0 w (.cells (irow .u8 (zr 32)) 23)
  have hw : Below w.heap.size w (w.alloc (.cells (irow .u8 (zr 32)) 23)) := (Below.refl _ _).alloc (Nat.le_refl _) _
  have cS := a_macSum key bs _ v vb (hS.below hw) (hK.below hw) (hB.keep hw) hcap hlim (hBb.keep hw) hcapb hlimb
  have hHl := hm_len key bs
  generalize hm key bs = H at *
  go_enter Tryd.func15, Tryd.ntmps15
  go_wp2_with (first | (refine wpList_alloc rfl 23 rfl (irow .u8 (zr 32)) zkey ?_) | fail)
  refine cS.mono ?_
  rintro e_ w3 ⟨rfl, hb⟩
  replace r0 := keep hb r0
  replace hw := Below.after hw hb
  clear hb cS
  go_wp2_with (first | (refine wpList_store_row rfl 23 _ _ rfl (w.heap.size) (irow .u8 H) rfl rfl 23 _ r0 (infok8 _ hHl) (fit32 _ _ (zr_len 32) hHl) (irow_one _ _) ?_) | fail)
  replace r0 := setRow_heap w3 (w.heap.size) _ (irow .u8 H) _ _ r0
  replace hw := below_setRow hw (Nat.le_refl _) (irow .u8 H)
  generalize w3.setRow (w.heap.size) (irow .u8 H) = w9 at *
  exact bodyPost_ret (v := .agg (irow .u8 H)) (results_cell_row Tryd.results15 _ _ (w.heap.size) _ _ _ _ rfl r0 Tryd.underlying23 rfl (infok8 _ hHl)) rfl ⟨rfl, hw⟩

end Go.Proofs.YtkpjpdlamojejaaDoor

namespace Go.Proofs.YtkpjpdlamojejaaDoor
set_option maxRecDepth 100000
open Go Go.RowKit Go.Sort
attribute [local go_sem] setCell_drewN alloc_drewN

theorem grownT {a b c : World} {g : Nat} (h : a.grownBy b (some g)) (hb : b.grownBy c (some g)) : a.grownBy c (some g) :=
  ⟨hb.os.trans h.os, hb.tape.trans h.tape, hb.output.trans h.output, Nat.le_trans h.size hb.size, fun k hk hn => (hb.block k (Nat.lt_of_lt_of_le hk h.size) hn).trans (h.block k hk hn)⟩
theorem grown_setRow_hi {a b : World} {g n : Nat} (cs : Array Value) (h : a.grownBy b (some g)) (hn : a.heap.size ≤ n) : a.grownBy (b.setRow n cs) (some g) := by
  refine ⟨h.os, h.tape, h.output, ?_, fun k hk hne => ?_⟩
  · have e : (b.setRow n cs).heap.size = b.heap.size := by simp
    rw [e]; exact h.size
  · rw [setRow_other b n k cs (by omega)]
    exact h.block k hk hne
theorem Bys.grown {W W' : World} {v : Value} {bs : List Int} {g : Nat} (h : Bys W v bs) (hb : W.grownBy W' (some g)) (hne : ∀ a l c, v = .slice (some a) l c → 0 < l → a.block ≠ g) : Bys W' v bs := by
  obtain ⟨ao, cap, rfl, hl, hc, hz⟩ := h
  refine ⟨ao, cap, rfl, hl, fun j hj => ?_, hz⟩
  obtain ⟨b, off, rfl, h1, h2⟩ := hc j hj
  have hn : b ≠ g := hne ⟨b, off, none⟩ _ _ rfl (by omega)
  exact ⟨b, off, rfl, Nat.lt_of_lt_of_le h1 hb.size, hb.cell h2 (by intro e; injection e with e; exact hn e)⟩
theorem bys_ne {W : World} {v : Value} {bs : List Int} (h : Bys W v bs) : ∀ a l c, v = .slice (some a) l c → 0 < l → a.block < W.heap.size := by
  rintro a l c rfl hl
  obtain ⟨_, _, e, _, hc, _⟩ := h
  injection e with e1 e2 e3
  obtain ⟨b0, off, e, hb, _⟩ := hc 0 (by omega)
  rw [e] at e1
  injection e1 with e1
  rw [e1]
  exact hb
theorem bys_nil (W : World) : Bys W (.slice none 0 0) [] := ⟨none, 0, rfl, by decide, fun j hj => by simp at hj, by simp⟩
theorem bys_bd {W : World} {v : Value} {bs : List Int} (h : Bys W v bs) : ∀ z ∈ bs, 0 ≤ z ∧ z < 256 := by
  obtain ⟨_, _, _, _, _, h⟩ := h; exact h
set_option maxRecDepth 100000 in
set_option maxHeartbeats 8000000 in
theorem a_next (key b0 last info : List Int) (num : Int) (g : Nat) (w : World) (vl vi : Value) (hK : Kon w) (hg1 : 3 < g) (rM : w.heap[g]? = some (.cells (mst key b0) 93 (0, 0))) (hL : Bys w vl last) (hcl : ∀ a l c, vl = .slice a l c → l ≤ c) (hnl : ∀ a l c, vl = .slice (some a) l c → 0 < l → a.block ≠ g) (hI : Bys w vi info) (hci : ∀ a l c, vi = .slice a l c → l ≤ c) (hni : ∀ a l c, vi = .slice (some a) l c → 0 < l → a.block ≠ g) (hnum : 0 ≤ num ∧ num < 256) (hll : last.length ≤ 64) (hil : info.length ≤ 4611686018427370000) :
    Calls Tryd.prog 25 #[.pointer (some ⟨g, 0, none⟩), vl, vi, .int .u8 num] w fun e w' => e = .returned (.agg (irow .u8 (hm key (last ++ (info ++ [num]))))) ∧ w'.heap[g]? = some (.cells (mst key (last ++ (info ++ [num]))) 93 (0, 0)) ∧ w.grownBy w' (some g) := by
  have r0 := hp1_0 w (.cells (irow .u8 (zr 32)) 23)
  have hw0 : Below w.heap.size w (w.alloc (.cells (irow .u8 (zr 32)) 23)) := (Below.refl _ _).alloc (Nat.le_refl _) _
  have hw := grown_below (World.grownBy.refl w (some g)) hw0
  have f4 := hK.below hw0
  have hk1 := hK.sz
  have lg := lt_of_row rM
  replace rM := keep hw0 rM
  replace hL := hL.keep hw0
  replace hI := hI.keep hw0
  have hlz := bys_bd hL
  have hiz := bys_bd hI
  have hkl := kin_len key
  have cR := fun (W : World) r => a_mreset key b0 g W r
  have c1 := fun (W : World) (r : W.heap[g]? = some (.cells (mst key []) 93 (0, 0))) a b => a_writeR (mrest key) 93 (kin key ++ []) last g W vl r a hnl hcl hg1 b (by rw [List.append_nil]; exact kin_bd key) (by rw [List.append_nil]; omega)
  rw [List.append_nil, show hsx (mrest key) (kin key ++ last) = mst key last from rfl] at c1
  have c2 := fun (W : World) (r : W.heap[g]? = some (.cells (mst key last) 93 (0, 0))) a b => a_writeR (mrest key) 93 (kin key ++ last) info g W vi r a hni hci hg1 b (both_bd (kin_bd key) hlz) (by rw [List.length_append]; omega)
  rw [List.append_assoc, show hsx (mrest key) (kin key ++ (last ++ info)) = mst key (last ++ info) from rfl] at c2
  have c3 := fun (W : World) (x : Value) (r : W.heap[g]? = some (.cells (mst key (last ++ info)) 93 (0, 0))) a b c d => a_writeR (mrest key) 93 (kin key ++ (last ++ info)) [num] g W x r a b c hg1 d (both_bd (kin_bd key) (both_bd hlz hiz)) (by simp only [List.length_append, List.length_cons, List.length_nil]; omega)
  rw [List.append_assoc, List.append_assoc, show hsx (mrest key) (kin key ++ (last ++ (info ++ [num]))) = mst key (last ++ (info ++ [num])) from rfl] at c3
  have cS := fun (W : World) a b => a_msum key (last ++ (info ++ [num])) g W a b (both_bd hlz (both_bd hiz (by intro z hz; rw [List.mem_singleton.1 hz]; exact hnum))) (by simp only [List.length_append, List.length_cons, List.length_nil]; omega)
  have hHl := hm_len key (last ++ (info ++ [num]))
  have hob : ∀ z ∈ [num], 0 ≤ z ∧ z < 256 := by intro z hz; rw [List.mem_singleton.1 hz]; exact hnum
  generalize hm key (last ++ (info ++ [num])) = H at *
  generalize mst key (last ++ (info ++ [num])) = M3 at *
  generalize mst key (last ++ info) = M2 at *
  generalize mst key last = M1 at *
  generalize mst key [] = M0 at *
  generalize mst key b0 = Mb at *
  obtain ⟨aol, capl, rfl, _⟩ := id hL
  obtain ⟨aoi, capi, rfl, _⟩ := id hI
  go_enter Tryd.func25, Tryd.ntmps25
  go_wp2_with (first | (refine wpList_alloc rfl 23 rfl (irow .u8 (zr 32)) zkey ?_) | fail)
  clear hw0
  generalize w.alloc (.cells (irow .u8 (zr 32)) 23) = w0 at *
  have step : ∀ {A B : World}, A.heap[w.heap.size]? = some (.cells (irow .u8 (zr 32)) 23 (0, 0)) → A.grownBy B (some g) → B.heap[w.heap.size]? = some (.cells (irow .u8 (zr 32)) 23 (0, 0)) := fun h hb => (hb.block _ (lt_of_row h) (by intro e; injection e with e; omega)).trans h
  refine (cR w0 rM).mono ?_
  rintro e_ w1 ⟨rfl, r1, hgr⟩
  replace r0 := step r0 hgr
  replace hL := hL.grown hgr hnl
  replace hI := hI.grown hgr hni
  replace f4 := f4.grown hgr (by omega)
  replace hw := grownT hw hgr
  clear hgr cR rM
  go_wp2_with (fail)
  refine (c1 w1 r1 hL f4).mono ?_
  rintro e_ w2 ⟨rfl, r2, hgr⟩
  replace r0 := step r0 hgr
  replace hI := hI.grown hgr hni
  replace f4 := f4.grown hgr (by omega)
  replace hw := grownT hw hgr
  clear hgr c1 r1 hL
  go_wp2_with (fail)
  refine (c2 w2 r2 hI f4).mono ?_
  rintro e_ w3 ⟨rfl, r3, hgr⟩
  replace r0 := step r0 hgr
  replace f4 := f4.grown hgr (by omega)
  replace hw := grownT hw hgr
  clear hgr c2 r2 hI
  have hba : Below w3.heap.size w3 (w3.alloc (.cells #[.int .u8 num] 5)) := (Below.refl _ _).alloc (Nat.le_refl _) _
  have ro : (w3.alloc (.cells #[.int .u8 num] 5)).heap[w3.heap.size]? = some (.cells (irow .u8 [num]) 5 (0, 0)) := hp1_0 w3 _
  have l3 := lt_of_row r3
  replace r0 := keep hba r0
  replace r3 := keep hba r3
  replace f4 := f4.below hba
  replace hw := grown_below hw hba
  clear hba
  go_wp2_with (fail)
  generalize w3.alloc (.cells #[.int .u8 num] 5) = w4 at *
  generalize w3.heap.size = G3 at *
  refine (c3 w4 _ r3 (Bys.of_row ro (by simp) hob 1) (fun a l c h _ => by cases h; show G3 ≠ g; omega) (fun a l c h => by cases h; exact Nat.le_refl _) f4).mono ?_
  rintro e_ w5 ⟨rfl, r5, hgr⟩
  replace r0 := step r0 hgr
  replace f4 := f4.grown hgr (by omega)
  replace hw := grownT hw hgr
  clear hgr c3 r3
  go_wp2_with (fail)
  refine (cS w5 f4 r5).mono ?_
  rintro e_ w6 ⟨rfl, hb⟩
  replace r0 := keep hb r0
  replace r5 := keep hb r5
  replace hw := grown_below hw hb
  clear hb cS
  go_wp2_with (first | (refine wpList_store_row rfl 23 _ _ rfl (w.heap.size) (irow .u8 H) rfl rfl 23 _ r0 (infok8 _ hHl) (fit32 _ _ (zr_len 32) hHl) (irow_one _ _) ?_) | fail)
  replace r0 := setRow_heap w6 (w.heap.size) _ (irow .u8 H) _ _ r0
  replace r5 := (setRow_other w6 (w.heap.size) g (irow .u8 H) (by omega)).trans r5
  replace hw := grown_setRow_hi (irow .u8 H) hw (Nat.le_refl _)
  generalize w6.setRow (w.heap.size) (irow .u8 H) = w9 at *
  exact bodyPost_ret (v := .agg (irow .u8 H)) (results_cell_row Tryd.results25 _ _ (w.heap.size) _ _ _ _ rfl r0 Tryd.underlying23 rfl (infok8 _ hHl)) rfl ⟨rfl, r5, hw⟩
theorem bK (cs : Array Value) (W : World) : (Instr.box 23 (.agg cs)).run Tryd.prog W = .ok (.pointer (some ⟨W.heap.size, 0, none⟩)) (W.alloc (.cells cs 23)) := by kernel_rfl
/-- What Expand has written, k pieces behind it. -/
def xout (key info : List Int) (n k : Nat) : List Int := (tall key info k).take n ++ zr (n - 32 * k)
theorem xout_len (key info : List Int) (n k : Nat) : (xout key info n k).length = n := by
  rw [xout, List.length_append, List.length_take, tall_len, zr_len]; omega
theorem xout_step (key info : List Int) (n k : Nat) (h : 32 * k < n) : (xout key info n k).take (32 * k) ++ (tp key info (k + 1)).take (n - 32 * k) ++ (xout key info n k).drop (32 * k + ((tp key info (k + 1)).take (n - 32 * k)).length) = xout key info n (k + 1) := by
  have hl := tall_len key info k
  have hp := tp_len key info k
  have e1 : (tall key info k).take n = tall key info k := List.take_of_length_le (by omega)
  have e2 : (xout key info n k).take (32 * k) = tall key info k := by rw [xout, e1, List.take_left' hl]
  have e3 : ∀ m, (xout key info n k).drop (32 * k + m) = zr (n - 32 * k - m) := fun m => by
    rw [xout, e1, ← hl, ← List.drop_drop, List.drop_left, zr_drop]
  rw [e2, e3, xout, tall, List.take_append, e1, hl, List.length_take, hp]
  congr 2
  omega
theorem xout_end (key info : List Int) (n k : Nat) (hk : k ≤ (n + 31) / 32) (h : ¬ 32 * k < n) : xout key info n k = xpd key info n := by
  obtain rfl : k = (n + 31) / 32 := by omega
  rw [xout, xpd, show n - 32 * ((n + 31) / 32) = 0 by omega]
  simp [zr]
set_option maxRecDepth 100000 in
set_option maxHeartbeats 8000000 in
theorem a_expand (key info : List Int) (n : Nat) (w : World) (vi : Value) (hS : Sta w) (hK : Kon w) (hkl : key.length = 32) (hkz : ∀ z ∈ key, 0 ≤ z ∧ z < 256) (hI : Bys w vi info) (hci : ∀ a l c, vi = .slice a l c → l ≤ c) (hil : info.length ≤ 4611686018427370000) (hn : n ≤ 8160) :
    Calls Tryd.prog 14 #[.agg (irow .u8 key), vi, .int .i64 (n : Int)] w fun e w' => ∃ v g, e = .returned v ∧ v = .tuple #[.slice (some ⟨g, 0, none⟩) n n, .int .i64 0] ∧ w.heap.size ≤ g ∧ w'.heap[g]? = some (.cells (irow .u8 (xpd key info n)) 5 (0, 0)) ∧ Below w.heap.size w w' := by
  have r0 := hp2_0 w (.cells (irow .u8 key) 23) (.cells (irow .u8 (zr n)) 5)
  have r1 := hp2_1 w (.cells (irow .u8 key) 23) (.cells (irow .u8 (zr n)) 5)
  have hw : Below w.heap.size w ((w.alloc (.cells (irow .u8 key) 23)).alloc (.cells (irow .u8 (zr n)) 5)) := ((Below.refl _ _).alloc (Nat.le_refl _) _).alloc (by simp) _
  have hmk := make_i64 n (by omega) (w.alloc (.cells (irow .u8 key) 23))
  have f0 := hS.below hw
  have f4 := hK.below hw
  have hk1 := hK.sz
  have hne := bys_ne hI
  have hd1 : decide ((n : Int) < 0) = false := by simp
  have hd2 : decide ((8160 : Int) < (n : Int)) = false := by simp; omega
  have hss := size_alloc1 w (.cells (irow .u8 key) 23)
  have hsz := size_alloc1 (w.alloc (.cells (irow .u8 key) 23)) (.cells (irow .u8 (zr n)) 5)
  rw [hss] at hsz
  obtain ⟨aoi, capi, rfl, _⟩ := id hI
  go_enter Tryd.func14, Tryd.ntmps14
  go_wp2_with (first | (refine wpList_box rfl 23 _ rfl _ rfl (bK _) ?_) | fail)
  clear hmk
  generalize (w.alloc (.cells (irow .u8 key) 23)).alloc (.cells (irow .u8 (zr n)) 5) = w0 at *
  have hBk := Bys.of_row r0 (by omega) hkz 32
  rw [hkl] at hBk
  refine (a_mnew key w0 _ f0 f4 hBk (fun a l c h => by cases h; exact Nat.le_refl _) (by omega)).mono ?_
  rintro e_ w1 ⟨gM, rfl, hgM, rM, hb⟩
  replace r1 := keep hb r1
  replace f4 := f4.below hb
  replace hw := Below.after hw hb
  clear hb f0 r0 hBk hss hd1 hd2
  rw [hsz] at hgM
  clear hsz
  have hx0 : zr n = xout key info n 0 := by rw [xout, tall, List.take_nil, List.nil_append, Nat.mul_zero, Nat.sub_zero]
  rw [hx0] at r1
  clear hx0
  have l1 := lt_of_row r1
  have lM := lt_of_row rM
  go_wp2
  go_loopw [10, 11] (fun vl i wr => ∃ (k : Nat) (b0 : List Int), k ≤ (n + 31) / 32 ∧ i = .int .i64 k ∧ Bys wr vl (tp key info k) ∧ (∀ a l c, vl = .slice a l c → l ≤ c) ∧ (∀ a l c, vl = .slice (some a) l c → 0 < l → a.block ≠ gM) ∧ wr.heap[(w.heap.size + 1)]? = some (.cells (irow .u8 (xout key info n k)) 5 (0, 0)) ∧ wr.heap[gM]? = some (.cells (mst key b0) 93 (0, 0)) ∧ Kon wr ∧ Below w.heap.size w wr) (fun _ i _ => (n + 31) / 32 - (intOf i).toNat)
  case atStart => exact ⟨0, [], by omega, rfl, bys_nil _, (fun a l c h => by cases h; exact Nat.le_refl _), (fun a l c h => by cases h), r1, rM, f4, hw⟩
  case round =>
    clear r1 rM f4 hw l1 lM
    obtain ⟨k, b0, hk, rfl, hL, hcl, hnl, r1, rM, f4, hw⟩ := hrel
    obtain ⟨aol, capl, rfl, _⟩ := id hL
    by_cases hlt : 32 * k < n
    · have hd : decide ((k : Int) * 32 < (n : Int)) = true := by simp; omega
      have hmod : ((k : Int) + 1) % 256 = (k : Int) + 1 := by omega
      have etp : tp key info (k + 1) = hm key (tp key info k ++ (info ++ [(k : Int) + 1])) := by rw [tp]; simp
      have hpl := tp_len key info k
      have hpb := tp_bd key info (k + 1)
      have cN := a_next key b0 (tp key info k) info ((k : Int) + 1) gM wr _ _ f4 (by omega) rM hL hcl hnl (hI.keep hw) hci (fun a l c h hl => by have := hne a l c h hl; omega) (by omega) (by have := tp_le key info k; omega) hil
      rw [← etp] at cN
      have hst1 := xout_step key info n k hlt
      have hxl := xout_len key info n k
      clear etp hL hcl hnl
      generalize tp key info k = L0 at *
      generalize eL1 : tp key info (k + 1) = L1 at *
      generalize eM1 : mst key (L0 ++ (info ++ [(k : Int) + 1])) = M1 at *
      replace eL1 := hide eL1
      replace eM1 := hide eM1
      go_wp2_with (fail)
      refine cN.mono ?_
      rintro e_ w2 ⟨rfl, r2, hgr⟩
      have lO := lt_of_row r1
      replace r1 : w2.heap[(w.heap.size + 1)]? = _ := (hgr.block _ lO (by intro e; injection e with e; omega)).trans r1
      replace f4 := f4.grown hgr (by omega)
      replace hw := hw.grown hgr hw.size (fun k h => by injection h with h; omega)
      clear hgr cN rM
      have lO2 := lt_of_row r1
      have lM2 := lt_of_row r2
      have hs2 := hw.size
      have hba : Below w2.heap.size w2 (w2.alloc (.cells (irow .u8 L1) 23)) := (Below.refl _ _).alloc (Nat.le_refl _) _
      have rP := hp1_0 w2 (.cells (irow .u8 L1) 23)
      replace r1 := keep hba r1
      replace r2 := keep hba r2
      replace f4 := f4.below hba
      replace hw := Below.after hw hba
      clear hba
      go_wp2_with (first | (refine wpList_alloc rfl 23 rfl (irow .u8 (zr 32)) zkey ?_) | (refine wpList_store_row rfl 23 _ _ rfl (w2.heap.size) (irow .u8 L1) rfl rfl 23 _ (hp1_0 w2 _) (infok8 _ hpl) (fit32 _ _ (zr_len 32) hpl) (irow_one _ _) ?_; rw [setRow_alloc_new _ _ _ _ _ _ rfl]) | fail)
      generalize w2.alloc (.cells (irow .u8 L1) 23) = w3 at *
      generalize w2.heap.size = gP at *
      obtain ⟨ao2, hao2, sl3⟩ := slice_rest (w.heap.size + 1) 0 n n (32 * k) (by omega) (Nat.le_refl _)
      rw [hao2 hlt, Nat.zero_add, show ((32 * k : Nat) : Int) = (k : Int) * 32 by omega] at sl3
      clear hao2
      try simp only [Act.put, List.setIfInBounds_toArray, List.set_cons_succ, List.set_cons_zero]
      refine wp_region_alloc_ex 5 5 [] (fun _ => .cells #[] 0 (0, 0)) (by kernel_rfl) (by decide) (by decide) (by kernel_rfl) (by kernel_rfl) (by kernel_rfl) (by kernel_rfl) (by kernel_rfl) (by kernel_rfl) (by kernel_rfl) (by kernel_rfl) (by decide) (by decide) ?_ ?_
      · intro s l u
        omega
      apply Exists.intro
      constructor
      · intro v_ hb
        clear hb; dsimp only [List.take]
        go_big_quiet_step (fail)
        go_big_quiet_step (fail)
        go_big_quiet_step (fail)
        go_big_quiet_step (fail)
        go_big_quiet_step (fail)
        refine wpQuiet_nil ?_
        rfl
      intro w4 g_ hb _ _
      simp only [List.drop, puts, ptrs, List.map, List.foldl, Act.put]
      replace r1 := keep hb r1
      replace r2 := keep hb r2
      replace rP := keep hb rP
      replace f4 := f4.below hb
      replace hw := Below.after hw hb
      clear hb sl3
      have hcl2 : (L1.take (n - 32 * k)).length = Nat.min 32 (n - 32 * k) := by rw [List.length_take, hpl]; exact Nat.min_comm _ _
      have hcopy := copy_irow (o := 32 * k) (dLen := n - 32 * k) (dCap := n - 32 * k) (b := gP) (off := 0) (m := 32) (cap := 32) (c := L1.take (n - 32 * k)) r1 (fun j hj => by
        have hj2 : j < 32 ∧ j < n - 32 * k := by rw [hcl2] at hj; exact ⟨Nat.lt_of_lt_of_le hj (Nat.min_le_left _ _), Nat.lt_of_lt_of_le hj (Nat.min_le_right _ _)⟩
        rw [Nat.zero_add, irow_cell rP (by omega), List.getD_eq_getElem?_getD, List.getD_eq_getElem?_getD, List.getElem?_take_of_lt hj2.2]) hcl2 (by have : Nat.min 32 (n - 32 * k) ≤ n - 32 * k := Nat.min_le_right _ _; omega)
      rw [hst1] at hcopy
      have r3 := setRow_heap w4 (w.heap.size + 1) _ (irow .u8 (xout key info n (k + 1))) _ _ r1
      replace r2 := (setRow_other w4 (w.heap.size + 1) gM (irow .u8 (xout key info n (k + 1))) (by omega)).trans r2
      replace rP := (setRow_other w4 (w.heap.size + 1) gP (irow .u8 (xout key info n (k + 1))) (by omega)).trans rP
      replace f4 := f4.belowN (n := 4) (by omega) (below_setRow (Below.refl _ _) (show 4 ≤ (w.heap.size + 1) by omega) (irow .u8 (xout key info n (k + 1))))
      replace hw := below_setRow hw (show w.heap.size ≤ (w.heap.size + 1) by omega) (irow .u8 (xout key info n (k + 1)))
      have hBL := Bys.of_row rP (by omega) hpb 32
      rw [hpl] at hBL
      clear hcl2 hst1 hxl r1 rP
      generalize eX1 : xout key info n (k + 1) = X1 at *
      replace eX1 := hide eX1
      generalize w4.setRow (w.heap.size + 1) (irow .u8 X1) = w5 at *
      go_wp2
      refine ⟨⟨k + 1, L0 ++ (info ++ [(k : Int) + 1]), by omega, by go_num, by rw [eL1.out]; exact hBL, (fun a l c h => by cases h; exact Nat.le_refl _), (fun a l c h _ => by cases h; show gP ≠ gM; omega), by rw [eX1.out]; exact r3, by rw [eM1.out]; exact r2, f4, hw⟩, ?_⟩
      simp [intOf]; omega
    · have hd : decide ((k : Int) * 32 < (n : Int)) = false := by simp; omega
      have hx := xout_end key info n k hk hlt
      rw [hx] at r1
      go_wp2
      go_ret2
      exact ⟨_, _, rfl, rfl, by omega, r1, hw⟩
set_option maxRecDepth 100000 in
set_option maxHeartbeats 8000000 in
theorem a_expand_no (key : List Int) (n : Int) (w : World) (vi : Value) (hn : n < 0 ∨ 8160 < n) :
    Calls Tryd.prog 14 #[.agg (irow .u8 key), vi, .int .i64 n] w fun e w' => ∃ v, e = .returned v ∧ v = .tuple #[.slice none 0 0, .int .i64 (if n < 0 then 1 else 2)] ∧ Below w.heap.size w w' := by
  have hw : Below w.heap.size w (w.alloc (.cells (irow .u8 key) 23)) := (Below.refl _ _).alloc (Nat.le_refl _) _
  rcases hn with hn | hn
  · have hd1 : decide (n < 0) = true := decide_eq_true hn
    rw [if_pos hn]
    go_enter Tryd.func14, Tryd.ntmps14
    go_wp2_with (first | (refine wpList_box rfl 23 _ rfl _ rfl (bK _) ?_) | fail)
    go_ret2
    exact ⟨_, rfl, rfl, hw⟩
  · have hd1 : decide (n < 0) = false := decide_eq_false (by omega)
    have hd2 : decide ((8160 : Int) < n) = true := decide_eq_true hn
    rw [if_neg (show ¬ n < 0 by omega)]
    go_enter Tryd.func14, Tryd.ntmps14
    go_wp2_with (first | (refine wpList_box rfl 23 _ rfl _ rfl (bK _) ?_) | fail)
    go_ret2
    exact ⟨_, rfl, rfl, hw⟩
/-- What an answer of Expand or Derive is. -/
def XAns (W : World) (lo : Nat) (v : Value) (key info : List Int) (n : Int) : Prop := (∃ (m : Nat) (g : Nat), n = (m : Int) ∧ m ≤ 8160 ∧ v = .tuple #[.slice (some ⟨g, 0, none⟩) m m, .int .i64 0] ∧ lo ≤ g ∧ W.heap[g]? = some (.cells (irow .u8 (xpd key info m)) 5 (0, 0))) ∨ ((n < 0 ∨ 8160 < n) ∧ v = .tuple #[.slice none 0 0, .int .i64 (if n < 0 then 1 else 2)])
theorem a_expand_any (key info : List Int) (n : Int) (w : World) (vi : Value) (hS : Sta w) (hK : Kon w) (hkl : key.length = 32) (hkz : ∀ z ∈ key, 0 ≤ z ∧ z < 256) (hI : Bys w vi info) (hci : ∀ a l c, vi = .slice a l c → l ≤ c) (hil : info.length ≤ 4611686018427370000) :
    Calls Tryd.prog 14 #[.agg (irow .u8 key), vi, .int .i64 n] w fun e w' => ∃ v, e = .returned v ∧ XAns w' w.heap.size v key info n ∧ Below w.heap.size w w' := by
  by_cases hn : n < 0 ∨ 8160 < n
  · refine (a_expand_no key n w vi hn).mono ?_
    rintro e_ w' ⟨v, rfl, rfl, hb⟩
    exact ⟨_, rfl, .inr ⟨hn, rfl⟩, hb⟩
  · obtain ⟨m, rfl⟩ := Int.eq_ofNat_of_zero_le (show 0 ≤ n by omega)
    refine (a_expand key info m w vi hS hK hkl hkz hI hci hil (by omega)).mono ?_
    rintro e_ w' ⟨v, g, rfl, rfl, hg, r, hb⟩
    exact ⟨_, rfl, .inl ⟨m, g, rfl, by omega, rfl, hg, r⟩, hb⟩
set_option maxRecDepth 100000 in
set_option maxHeartbeats 8000000 in
theorem a_derive (salt sec info : List Int) (n : Int) (w : World) (vs vc vi : Value) (hS : Sta w) (hK : Kon w) (hA : Bys w vs salt) (hca : ∀ a l c, vs = .slice a l c → l ≤ c) (hal : salt.length ≤ 4611686018427370000) (hC : Bys w vc sec) (hcc : ∀ a l c, vc = .slice a l c → l ≤ c) (hcl : sec.length ≤ 4611686018427370000) (hI : Bys w vi info) (hci : ∀ a l c, vi = .slice a l c → l ≤ c) (hil : info.length ≤ 4611686018427370000) :
    Calls Tryd.prog 8 #[vs, vc, vi, .int .i64 n] w fun e w' => ∃ v, e = .returned v ∧ XAns w' w.heap.size v (hm salt sec) info n ∧ Below w.heap.size w w' := by
  have cE := a_extract salt sec w vs vc hS hK hA hca (by omega) hC hcc (by omega)
  have cX := fun (W : World) a b c => a_expand_any (hm salt sec) info n W vi a b (hm_len _ _) (hm_bd _ _) c hci hil
  generalize hm salt sec = K at *
  go_enter Tryd.func8, Tryd.ntmps8
  go_wp2_with (fail)
  refine cE.mono ?_
  rintro e_ w1 ⟨rfl, hw⟩
  clear cE
  go_wp2_with (fail)
  refine (cX w1 (hS.below hw) (hK.below hw) (hI.keep hw)).mono ?_
  rintro e_ w2 ⟨v, rfl, hX, hb⟩
  clear cX
  have hs1 := hw.size
  replace hw := Below.after hw hb
  obtain ⟨m, g, rfl, hm, rfl, hg, r⟩ | ⟨hn, rfl⟩ := hX
  · go_wp2
    go_ret2
    exact ⟨_, rfl, .inl ⟨m, g, rfl, hm, rfl, by omega, r⟩, hw⟩
  · generalize hq : (if n < 0 then (1 : Int) else 2) = q at *
    go_wp2
    go_ret2
    exact ⟨_, rfl, .inr ⟨hn, by rw [hq]; rfl⟩, hw⟩

end Go.Proofs.YtkpjpdlamojejaaDoor

namespace Go.Proofs.YtkpjpdlamojejaaDoor
set_option maxRecDepth 100000
open Go Go.RowKit Go.Sort
attribute [local go_sem] setCell_drewN alloc_drewN

theorem wpList_append_own_want {P : Program} (w : World) {ops : Array Oper} {rest : List Oper} {o : Oper} {a : Act} {Q : Exit → Act → World → Prop} (hw : Region.wanted o (yielded ops a.tmps) = true) (s x : Operand) (t : TypeId)
    (ho : o.op = .call { callee := .builtin .append, args := #[s, x], argTypes := #[t, t] })
    (base : Nat) (e : TypeId) (i : TypeInfo) (z : Value) (ht : P.underlying t = some (.slice e)) (hi : P.info? e = some i) (hz : i.zero = some z)
    (hsize : i.size = 1) (hby : i.bytes = 1) (hzs : z.cells.size = 1)
    (v : Value) (n : Nat) (xs : List Value) (hs : a.eval s = v) (hown : w.ownsRow base e 1 v n xs)
    (ao : Option Addr) (m c : Nat) (news : List Value) (hx : a.eval x = .slice ao m c) (hl : news.length = m * 1) (hnone : ao = none → m = 0 ∧ c = 0) (hnews : ∀ ad, ao = some ad → ∀ j u, news[j]? = some u → w.cell? (ad.add j) = some u) (h1 : ∀ u ∈ news, u.oneCell' = true)
    (h63 : n + m ≤ maxLen) (hbytes : (n + m) * 1 ≤ 140737488355328) (hbase : base ≤ w.heap.size)
    (h : ∀ v' w', w'.ownsRow base e 1 v' (n + m) (xs ++ news) → w.grownBy w' v.ownBlock → wpList P ops Q rest (a.put o.dst v') w') : wpList P ops Q (o :: rest) a w := by
  refine BigFrame.wpList_want hw fun K hK' => ?_
  cases ao with
  | some ad => exact wp_append_own w s x t ho base e i z 1 1 ht hi hz hsize hby hzs (by decide) v n xs hs hown ad m c news hx hl (hnews ad rfl) h1 h63 hbytes hbase (fun v' w' h2 h3 _ => hK' _ _ (h v' w' h2 h3))
  | none =>
    obtain ⟨rfl, rfl⟩ := hnone rfl
    have hn0 : news = [] := List.eq_nil_of_length_eq_zero (by simpa using hl)
    subst hn0
    have hrun := run_append_owned_none (P := P) w base t o.type e i 1 ht hi _ n xs hown
    unfold Oper.wp
    simp [execOp, ho, resolve, invoke, builtin, hs, hx, hrun, Result.andThen]
    exact hK' _ _ (by simpa using h v w (by simpa using hown) (World.grownBy.refl _ _))
/-- Pieces of bytes, as they lie in a world. -/
def Pcs (W : World) (v : Value) (ps : List (List Int)) : Prop := ∃ ao cap, v = .slice ao ps.length cap ∧ ps.length ≤ 9223372036854775807 ∧ ∀ i, i < ps.length → ∃ b off u uc, ao = some ⟨b, off, none⟩ ∧ b < W.heap.size ∧ W.cell? ⟨b, off + i, none⟩ = some (.slice u (ps.getD i []).length uc) ∧ Bys W (.slice u (ps.getD i []).length uc) (ps.getD i []) ∧ (u = none → uc = 0)
/-- Bools, as they lie in a world. -/
def Bls (W : World) (v : Value) (qs : List Bool) : Prop := ∃ ao cap, v = .slice ao qs.length cap ∧ qs.length ≤ 9223372036854775807 ∧ ∀ i, i < qs.length → ∃ b off, ao = some ⟨b, off, none⟩ ∧ b < W.heap.size ∧ W.cell? ⟨b, off + i, none⟩ = some (.bool (qs.getD i false))
def flat (ps : List (List Int)) (k : Nat) : List Int := (ps.take k).flatten
theorem flat_next (ps : List (List Int)) (k : Nat) (hk : k < ps.length) : flat ps (k + 1) = flat ps k ++ ps.getD k [] := by
  unfold flat
  rw [List.take_add_one, List.flatten_append, List.getElem?_eq_getElem hk, List.getD_eq_getElem?_getD, List.getElem?_eq_getElem hk]
  simp
theorem flat_all (ps : List (List Int)) : flat ps ps.length = ps.flatten := by unfold flat; rw [List.take_length]
theorem flat_len (ps : List (List Int)) (k : Nat) : (flat ps k).length ≤ ps.flatten.length := by
  have h := congrArg List.flatten (List.take_append_drop k ps)
  rw [List.flatten_append] at h
  have := congrArg List.length h
  rw [List.length_append] at this
  unfold flat
  omega
theorem nilN (w : World) : BysN w (.slice none 0 0) [] := ⟨⟨none, 0, rfl, by decide, fun j hj => by simp at hj, by simp⟩, by decide, fun a l c h _ => by cases h; rfl⟩
theorem bys_none3 {W : World} {u : Option Addr} {uc : Nat} {bs : List Int} (hB : Bys W (.slice u bs.length uc) bs) (h : u = none → uc = 0) : u = none → bs.length = 0 ∧ uc = 0 := bys_none hB (fun a l c e ha => by injection e with e1 e2 e3; subst e1; rw [← e3]; exact h ha)
end Go.Proofs.YtkpjpdlamojejaaDoor

namespace Go.Proofs.YtkpjpdlamojejaaDoor
set_option maxRecDepth 100000
open Go Go.RowKit Go.Sort
attribute [local go_sem] setCell_drewN alloc_drewN

theorem zr_get (n j : Nat) : (zr n).getD j 0 = 0 := by
  rw [List.getD_eq_getElem?_getD]
  simp only [zr, List.getElem?_replicate]
  split <;> rfl
theorem getD_set_self (l : List Int) (j : Nat) (z : Int) (h : j < l.length) : (l.set j z).getD j 0 = z := by
  rw [List.getD_eq_getElem?_getD, List.getElem?_set_self h]; rfl
theorem cell_other (w : World) (a b : Addr) (v : Value) (h : b.block ≠ a.block) : (w.setCell a v).cell? b = w.cell? b := by
  simp only [World.cell?]
  rw [heap_setCell_other w a b.block v h]
end Go.Proofs.YtkpjpdlamojejaaDoor
