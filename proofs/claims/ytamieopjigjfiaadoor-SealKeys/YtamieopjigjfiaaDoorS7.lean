import Derived.Test.YtamieopjigjfiaaDoorProg
import Derived.WalkKit
import Derived.WalkSpells
import Derived.WalkLawsBesides
import Derived.Lib.QuietBelow
import Derived.BigQuiet
import Derived.Test.YtamieopjigjfiaaDoorS0
import Derived.Test.YtamieopjigjfiaaDoorS6
import Derived.Deep.RegionLaw
import Derived.Deep.RegionHeld3
import Derived.Test.YtamieopjigjfiaaDoorS4
import Derived.OrdersHeld
import Derived.Lib.SlBytesConst
namespace Go.Proofs.YtamieopjigjfiaaDoor
set_option maxRecDepth 100000
open Go Go.RowKit Go.Sort
attribute [local go_sem] setCell_drewN alloc_drewN

theorem grownT {a b c : World} {g : Nat} (h : a.grownBy b (some g)) (hb : b.grownBy c (some g)) : a.grownBy c (some g) :=
  ⟨hb.os.trans h.os, hb.tape.trans h.tape, hb.output.trans h.output, Nat.le_trans h.size hb.size, fun k hk hn => (hb.block k (Nat.lt_of_lt_of_le hk h.size) hn).trans (h.block k hk hn)⟩
theorem grown_setRow_hi {a b : World} {g n : Nat} (cs : Array Value) (h : a.grownBy b (some g)) (hn : a.heap.size ≤ n) : a.grownBy (b.setRow n cs) (some g) := by
  refine ⟨h.os, h.tape, h.output, ?_, fun k hk hne => ?_⟩
  · have e : (b.setRow n cs).heap.size = b.heap.size := by simp
    rw [e]; exact h.size
  · rw [setRow_other b n k cs (by omega)]
    exact h.block k hk hne
theorem Bys.grown {W W' : World} {v : Value} {bs : List Int} {g : Nat} (h : Bys W v bs) (hb : W.grownBy W' (some g)) (hne : ∀ a l c, v = .slice (some a) l c → 0 < l → a.block ≠ g) : Bys W' v bs := by
  obtain ⟨ao, cap, rfl, hl, hc, hz⟩ := h
  refine ⟨ao, cap, rfl, hl, fun j hj => ?_, hz⟩
  obtain ⟨b, off, rfl, h1, h2⟩ := hc j hj
  have hn : b ≠ g := hne ⟨b, off, none⟩ _ _ rfl (by omega)
  exact ⟨b, off, rfl, Nat.lt_of_lt_of_le h1 hb.size, hb.cell h2 (by intro e; injection e with e; exact hn e)⟩
theorem bys_ne {W : World} {v : Value} {bs : List Int} (h : Bys W v bs) : ∀ a l c, v = .slice (some a) l c → 0 < l → a.block < W.heap.size := by
  rintro a l c rfl hl
  obtain ⟨_, _, e, _, hc, _⟩ := h
  injection e with e1 e2 e3
  obtain ⟨b0, off, e, hb, _⟩ := hc 0 (by omega)
  rw [e] at e1
  injection e1 with e1
  rw [e1]
  exact hb
theorem bys_nil (W : World) : Bys W (.slice none 0 0) [] := ⟨none, 0, rfl, by decide, fun j hj => by simp at hj, by simp⟩
theorem bys_bd {W : World} {v : Value} {bs : List Int} (h : Bys W v bs) : ∀ z ∈ bs, 0 ≤ z ∧ z < 256 := by
  obtain ⟨_, _, _, _, _, h⟩ := h; exact h
set_option maxRecDepth 100000 in
set_option maxHeartbeats 8000000 in
theorem a_next (key b0 last info : List Int) (num : Int) (g : Nat) (w : World) (vl vi : Value) (hK : Kon w) (hg1 : 1 < g) (rM : w.heap[g]? = some (.cells (mst key b0) 76 (0, 0))) (hL : Bys w vl last) (hcl : ∀ a l c, vl = .slice a l c → l ≤ c) (hnl : ∀ a l c, vl = .slice (some a) l c → 0 < l → a.block ≠ g) (hI : Bys w vi info) (hci : ∀ a l c, vi = .slice a l c → l ≤ c) (hni : ∀ a l c, vi = .slice (some a) l c → 0 < l → a.block ≠ g) (hnum : 0 ≤ num ∧ num < 256) (hll : last.length ≤ 64) (hil : info.length ≤ 4611686018427370000) :
    Calls Tryd.prog 32 #[.pointer (some ⟨g, 0, none⟩), vl, vi, .int .u8 num] w fun e w' => e = .returned (.agg (irow .u8 (hm key (last ++ (info ++ [num]))))) ∧ w'.heap[g]? = some (.cells (mst key (last ++ (info ++ [num]))) 76 (0, 0)) ∧ w.grownBy w' (some g) := by
  have r0 := hp1_0 w (.cells (irow .u8 (zr 32)) 23)
  have hw0 : Below w.heap.size w (w.alloc (.cells (irow .u8 (zr 32)) 23)) := (Below.refl _ _).alloc (Nat.le_refl _) _
  have hw := grown_below (World.grownBy.refl w (some g)) hw0
  have f4 := hK.below hw0
  have hk1 := hK.sz
  have lg := lt_of_row rM
  replace rM := keep hw0 rM
  replace hL := hL.keep hw0
  replace hI := hI.keep hw0
  have hlz := bys_bd hL
  have hiz := bys_bd hI
  have hkl := kin_len key
  have cR := fun (W : World) r => a_mreset key b0 g W r
  have c1 := fun (W : World) (r : W.heap[g]? = some (.cells (mst key []) 76 (0, 0))) a b => a_writeR (mrest key) 76 (kin key ++ []) last g W vl r a hnl hcl hg1 b (by rw [List.append_nil]; exact kin_bd key) (by rw [List.append_nil]; omega)
  rw [List.append_nil, show hsx (mrest key) (kin key ++ last) = mst key last from rfl] at c1
  have c2 := fun (W : World) (r : W.heap[g]? = some (.cells (mst key last) 76 (0, 0))) a b => a_writeR (mrest key) 76 (kin key ++ last) info g W vi r a hni hci hg1 b (both_bd (kin_bd key) hlz) (by rw [List.length_append]; omega)
  rw [List.append_assoc, show hsx (mrest key) (kin key ++ (last ++ info)) = mst key (last ++ info) from rfl] at c2
  have c3 := fun (W : World) (x : Value) (r : W.heap[g]? = some (.cells (mst key (last ++ info)) 76 (0, 0))) a b c d => a_writeR (mrest key) 76 (kin key ++ (last ++ info)) [num] g W x r a b c hg1 d (both_bd (kin_bd key) (both_bd hlz hiz)) (by simp only [List.length_append, List.length_cons, List.length_nil]; omega)
  rw [List.append_assoc, List.append_assoc, show hsx (mrest key) (kin key ++ (last ++ (info ++ [num]))) = mst key (last ++ (info ++ [num])) from rfl] at c3
  have cS := fun (W : World) a b => a_msum key (last ++ (info ++ [num])) g W a b (both_bd hlz (both_bd hiz (by intro z hz; rw [List.mem_singleton.1 hz]; exact hnum))) (by simp only [List.length_append, List.length_cons, List.length_nil]; omega)
  have hHl := hm_len key (last ++ (info ++ [num]))
  have hob : ∀ z ∈ [num], 0 ≤ z ∧ z < 256 := by intro z hz; rw [List.mem_singleton.1 hz]; exact hnum
  generalize hm key (last ++ (info ++ [num])) = H at *
  generalize mst key (last ++ (info ++ [num])) = M3 at *
  generalize mst key (last ++ info) = M2 at *
  generalize mst key last = M1 at *
  generalize mst key [] = M0 at *
  generalize mst key b0 = Mb at *
  obtain ⟨aol, capl, rfl, _⟩ := id hL
  obtain ⟨aoi, capi, rfl, _⟩ := id hI
  go_enter Tryd.func32, Tryd.ntmps32
  go_wp2_with (first | (refine wpList_alloc rfl 23 rfl (irow .u8 (zr 32)) zkey ?_) | fail)
  clear hw0
  generalize w.alloc (.cells (irow .u8 (zr 32)) 23) = w0 at *
  have step : ∀ {A B : World}, A.heap[w.heap.size]? = some (.cells (irow .u8 (zr 32)) 23 (0, 0)) → A.grownBy B (some g) → B.heap[w.heap.size]? = some (.cells (irow .u8 (zr 32)) 23 (0, 0)) := fun h hb => (hb.block _ (lt_of_row h) (by intro e; injection e with e; omega)).trans h
  refine (cR w0 rM).mono ?_
  rintro e_ w1 ⟨rfl, r1, hgr⟩
  replace r0 := step r0 hgr
  replace hL := hL.grown hgr hnl
  replace hI := hI.grown hgr hni
  replace f4 := f4.grown hgr (by omega)
  replace hw := grownT hw hgr
  clear hgr cR rM
  go_wp2_with (fail)
  refine (c1 w1 r1 hL f4).mono ?_
  rintro e_ w2 ⟨rfl, r2, hgr⟩
  replace r0 := step r0 hgr
  replace hI := hI.grown hgr hni
  replace f4 := f4.grown hgr (by omega)
  replace hw := grownT hw hgr
  clear hgr c1 r1 hL
  go_wp2_with (fail)
  refine (c2 w2 r2 hI f4).mono ?_
  rintro e_ w3 ⟨rfl, r3, hgr⟩
  replace r0 := step r0 hgr
  replace f4 := f4.grown hgr (by omega)
  replace hw := grownT hw hgr
  clear hgr c2 r2 hI
  have hba : Below w3.heap.size w3 (w3.alloc (.cells #[.int .u8 num] 5)) := (Below.refl _ _).alloc (Nat.le_refl _) _
  have ro : (w3.alloc (.cells #[.int .u8 num] 5)).heap[w3.heap.size]? = some (.cells (irow .u8 [num]) 5 (0, 0)) := hp1_0 w3 _
  have l3 := lt_of_row r3
  replace r0 := keep hba r0
  replace r3 := keep hba r3
  replace f4 := f4.below hba
  replace hw := grown_below hw hba
  clear hba
  go_wp2_with (fail)
  generalize w3.alloc (.cells #[.int .u8 num] 5) = w4 at *
  generalize w3.heap.size = G3 at *
  refine (c3 w4 _ r3 (Bys.of_row ro (by simp) hob 1) (fun a l c h _ => by cases h; show G3 ≠ g; omega) (fun a l c h => by cases h; exact Nat.le_refl _) f4).mono ?_
  rintro e_ w5 ⟨rfl, r5, hgr⟩
  replace r0 := step r0 hgr
  replace f4 := f4.grown hgr (by omega)
  replace hw := grownT hw hgr
  clear hgr c3 r3
  go_wp2_with (fail)
  refine (cS w5 f4 r5).mono ?_
  rintro e_ w6 ⟨rfl, hb⟩
  replace r0 := keep hb r0
  replace r5 := keep hb r5
  replace hw := grown_below hw hb
  clear hb cS
  go_wp2_with (first | (refine wpList_store_row rfl 23 _ _ rfl (w.heap.size) (irow .u8 H) rfl rfl 23 _ r0 (infok8 _ hHl) (fit32 _ _ (zr_len 32) hHl) (irow_one _ _) ?_) | fail)
  replace r0 := setRow_heap w6 (w.heap.size) _ (irow .u8 H) _ _ r0
  replace r5 := (setRow_other w6 (w.heap.size) g (irow .u8 H) (by omega)).trans r5
  replace hw := grown_setRow_hi (irow .u8 H) hw (Nat.le_refl _)
  generalize w6.setRow (w.heap.size) (irow .u8 H) = w9 at *
  exact bodyPost_ret (v := .agg (irow .u8 H)) (results_cell_row Tryd.results32 _ _ (w.heap.size) _ _ _ _ rfl r0 Tryd.underlying23 rfl (infok8 _ hHl)) rfl ⟨rfl, r5, hw⟩
theorem bK (cs : Array Value) (W : World) : (Instr.box 23 (.agg cs)).run Tryd.prog W = .ok (.pointer (some ⟨W.heap.size, 0, none⟩)) (W.alloc (.cells cs 23)) := by kernel_rfl
/-- What Expand has written, k pieces behind it. -/
def xout (key info : List Int) (n k : Nat) : List Int := (tall key info k).take n ++ zr (n - 32 * k)
theorem xout_len (key info : List Int) (n k : Nat) : (xout key info n k).length = n := by
  rw [xout, List.length_append, List.length_take, tall_len, zr_len]; omega
theorem xout_step (key info : List Int) (n k : Nat) (h : 32 * k < n) : (xout key info n k).take (32 * k) ++ (tp key info (k + 1)).take (n - 32 * k) ++ (xout key info n k).drop (32 * k + ((tp key info (k + 1)).take (n - 32 * k)).length) = xout key info n (k + 1) := by
  have hl := tall_len key info k
  have hp := tp_len key info k
  have e1 : (tall key info k).take n = tall key info k := List.take_of_length_le (by omega)
  have e2 : (xout key info n k).take (32 * k) = tall key info k := by rw [xout, e1, List.take_left' hl]
  have e3 : ∀ m, (xout key info n k).drop (32 * k + m) = zr (n - 32 * k - m) := fun m => by
    rw [xout, e1, ← hl, ← List.drop_drop, List.drop_left, zr_drop]
  rw [e2, e3, xout, tall, List.take_append, e1, hl, List.length_take, hp]
  congr 2
  omega
theorem xout_end (key info : List Int) (n k : Nat) (hk : k ≤ (n + 31) / 32) (h : ¬ 32 * k < n) : xout key info n k = xpd key info n := by
  obtain rfl : k = (n + 31) / 32 := by omega
  rw [xout, xpd, show n - 32 * ((n + 31) / 32) = 0 by omega]
  simp [zr]
set_option maxRecDepth 100000 in
set_option maxHeartbeats 8000000 in
theorem a_expand (key info : List Int) (n : Nat) (w : World) (vi : Value) (hS : Sta w) (hK : Kon w) (hkl : key.length = 32) (hkz : ∀ z ∈ key, 0 ≤ z ∧ z < 256) (hI : Bys w vi info) (hci : ∀ a l c, vi = .slice a l c → l ≤ c) (hil : info.length ≤ 4611686018427370000) (hn : n ≤ 8160) :
    Calls Tryd.prog 22 #[.agg (irow .u8 key), vi, .int .i64 (n : Int)] w fun e w' => ∃ v g, e = .returned v ∧ v = .tuple #[.slice (some ⟨g, 0, none⟩) n n, .int .i64 0] ∧ w.heap.size ≤ g ∧ w'.heap[g]? = some (.cells (irow .u8 (xpd key info n)) 5 (0, 0)) ∧ Below w.heap.size w w' := by
  have r0 := hp2_0 w (.cells (irow .u8 key) 23) (.cells (irow .u8 (zr n)) 5)
  have r1 := hp2_1 w (.cells (irow .u8 key) 23) (.cells (irow .u8 (zr n)) 5)
  have hw : Below w.heap.size w ((w.alloc (.cells (irow .u8 key) 23)).alloc (.cells (irow .u8 (zr n)) 5)) := ((Below.refl _ _).alloc (Nat.le_refl _) _).alloc (by simp) _
  have hmk := make_i64 n (by omega) (w.alloc (.cells (irow .u8 key) 23))
  have f0 := hS.below hw
  have f4 := hK.below hw
  have hk1 := hK.sz
  have hne := bys_ne hI
  have hd1 : decide ((n : Int) < 0) = false := by simp
  have hd2 : decide ((8160 : Int) < (n : Int)) = false := by simp; omega
  have hss := size_alloc1 w (.cells (irow .u8 key) 23)
  have hsz := size_alloc1 (w.alloc (.cells (irow .u8 key) 23)) (.cells (irow .u8 (zr n)) 5)
  rw [hss] at hsz
  obtain ⟨aoi, capi, rfl, _⟩ := id hI
  go_enter Tryd.func22, Tryd.ntmps22
  go_wp2_with (first | (refine wpList_box rfl 23 _ rfl _ rfl (bK _) ?_) | fail)
  clear hmk
  generalize (w.alloc (.cells (irow .u8 key) 23)).alloc (.cells (irow .u8 (zr n)) 5) = w0 at *
  have hBk := Bys.of_row r0 (by omega) hkz 32
  rw [hkl] at hBk
  refine (a_mnew key w0 _ f0 f4 hBk (fun a l c h => by cases h; exact Nat.le_refl _) (by omega)).mono ?_
  rintro e_ w1 ⟨gM, rfl, hgM, rM, hb⟩
  replace r1 := keep hb r1
  replace f4 := f4.below hb
  replace hw := Below.after hw hb
  clear hb f0 r0 hBk hss hd1 hd2
  rw [hsz] at hgM
  clear hsz
  have hx0 : zr n = xout key info n 0 := by rw [xout, tall, List.take_nil, List.nil_append, Nat.mul_zero, Nat.sub_zero]
  rw [hx0] at r1
  clear hx0
  have l1 := lt_of_row r1
  have lM := lt_of_row rM
  go_wp2
  go_loopw [10, 11] (fun vl i wr => ∃ (k : Nat) (b0 : List Int), k ≤ (n + 31) / 32 ∧ i = .int .i64 k ∧ Bys wr vl (tp key info k) ∧ (∀ a l c, vl = .slice a l c → l ≤ c) ∧ (∀ a l c, vl = .slice (some a) l c → 0 < l → a.block ≠ gM) ∧ wr.heap[(w.heap.size + 1)]? = some (.cells (irow .u8 (xout key info n k)) 5 (0, 0)) ∧ wr.heap[gM]? = some (.cells (mst key b0) 76 (0, 0)) ∧ Kon wr ∧ Below w.heap.size w wr) (fun _ i _ => (n + 31) / 32 - (intOf i).toNat)
  case atStart => exact ⟨0, [], by omega, rfl, bys_nil _, (fun a l c h => by cases h; exact Nat.le_refl _), (fun a l c h => by cases h), r1, rM, f4, hw⟩
  case round =>
    clear r1 rM f4 hw l1 lM
    obtain ⟨k, b0, hk, rfl, hL, hcl, hnl, r1, rM, f4, hw⟩ := hrel
    obtain ⟨aol, capl, rfl, _⟩ := id hL
    by_cases hlt : 32 * k < n
    · have hd : decide ((k : Int) * 32 < (n : Int)) = true := by simp; omega
      have hmod : ((k : Int) + 1) % 256 = (k : Int) + 1 := by omega
      have etp : tp key info (k + 1) = hm key (tp key info k ++ (info ++ [(k : Int) + 1])) := by rw [tp]; simp
      have hpl := tp_len key info k
      have hpb := tp_bd key info (k + 1)
      have cN := a_next key b0 (tp key info k) info ((k : Int) + 1) gM wr _ _ f4 (by omega) rM hL hcl hnl (hI.keep hw) hci (fun a l c h hl => by have := hne a l c h hl; omega) (by omega) (by have := tp_le key info k; omega) hil
      rw [← etp] at cN
      have hst1 := xout_step key info n k hlt
      have hxl := xout_len key info n k
      clear etp hL hcl hnl
      generalize tp key info k = L0 at *
      generalize eL1 : tp key info (k + 1) = L1 at *
      generalize eM1 : mst key (L0 ++ (info ++ [(k : Int) + 1])) = M1 at *
      replace eL1 := hide eL1
      replace eM1 := hide eM1
      go_wp2_with (fail)
      refine cN.mono ?_
      rintro e_ w2 ⟨rfl, r2, hgr⟩
      have lO := lt_of_row r1
      replace r1 : w2.heap[(w.heap.size + 1)]? = _ := (hgr.block _ lO (by intro e; injection e with e; omega)).trans r1
      replace f4 := f4.grown hgr (by omega)
      replace hw := hw.grown hgr hw.size (fun k h => by injection h with h; omega)
      clear hgr cN rM
      have lO2 := lt_of_row r1
      have lM2 := lt_of_row r2
      have hs2 := hw.size
      have hba : Below w2.heap.size w2 (w2.alloc (.cells (irow .u8 L1) 23)) := (Below.refl _ _).alloc (Nat.le_refl _) _
      have rP := hp1_0 w2 (.cells (irow .u8 L1) 23)
      replace r1 := keep hba r1
      replace r2 := keep hba r2
      replace f4 := f4.below hba
      replace hw := Below.after hw hba
      clear hba
      go_wp2_with (first | (refine wpList_alloc rfl 23 rfl (irow .u8 (zr 32)) zkey ?_) | (refine wpList_store_row rfl 23 _ _ rfl (w2.heap.size) (irow .u8 L1) rfl rfl 23 _ (hp1_0 w2 _) (infok8 _ hpl) (fit32 _ _ (zr_len 32) hpl) (irow_one _ _) ?_; rw [setRow_alloc_new _ _ _ _ _ _ rfl]) | fail)
      generalize w2.alloc (.cells (irow .u8 L1) 23) = w3 at *
      generalize w2.heap.size = gP at *
      obtain ⟨ao2, hao2, sl3⟩ := slice_rest (w.heap.size + 1) 0 n n (32 * k) (by omega) (Nat.le_refl _)
      rw [hao2 hlt, Nat.zero_add, show ((32 * k : Nat) : Int) = (k : Int) * 32 by omega] at sl3
      clear hao2
      try simp only [Act.put, List.setIfInBounds_toArray, List.set_cons_succ, List.set_cons_zero]
      refine wp_region_alloc_ex 5 5 [] (fun _ => .cells #[] 0 (0, 0)) (by kernel_rfl) (by decide) (by decide) (by kernel_rfl) (by kernel_rfl) (by kernel_rfl) (by kernel_rfl) (by kernel_rfl) (by kernel_rfl) (by kernel_rfl) (by kernel_rfl) (by decide) (by decide) ?_ ?_
      · intro s l u
        omega
      apply Exists.intro
      constructor
      · intro v_ hb
        clear hb; dsimp only [List.take]
        go_big_quiet_step (fail)
        go_big_quiet_step (fail)
        go_big_quiet_step (fail)
        go_big_quiet_step (fail)
        go_big_quiet_step (fail)
        refine wpQuiet_nil ?_
        rfl
      intro w4 g_ hb _ _
      simp only [List.drop, puts, ptrs, List.map, List.foldl, Act.put]
      replace r1 := keep hb r1
      replace r2 := keep hb r2
      replace rP := keep hb rP
      replace f4 := f4.below hb
      replace hw := Below.after hw hb
      clear hb sl3
      have hcl2 : (L1.take (n - 32 * k)).length = Nat.min 32 (n - 32 * k) := by rw [List.length_take, hpl]; exact Nat.min_comm _ _
      have hcopy := copy_irow (o := 32 * k) (dLen := n - 32 * k) (dCap := n - 32 * k) (b := gP) (off := 0) (m := 32) (cap := 32) (c := L1.take (n - 32 * k)) r1 (fun j hj => by
        have hj2 : j < 32 ∧ j < n - 32 * k := by rw [hcl2] at hj; exact ⟨Nat.lt_of_lt_of_le hj (Nat.min_le_left _ _), Nat.lt_of_lt_of_le hj (Nat.min_le_right _ _)⟩
        rw [Nat.zero_add, irow_cell rP (by omega), List.getD_eq_getElem?_getD, List.getD_eq_getElem?_getD, List.getElem?_take_of_lt hj2.2]) hcl2 (by have : Nat.min 32 (n - 32 * k) ≤ n - 32 * k := Nat.min_le_right _ _; omega)
      rw [hst1] at hcopy
      have r3 := setRow_heap w4 (w.heap.size + 1) _ (irow .u8 (xout key info n (k + 1))) _ _ r1
      replace r2 := (setRow_other w4 (w.heap.size + 1) gM (irow .u8 (xout key info n (k + 1))) (by omega)).trans r2
      replace rP := (setRow_other w4 (w.heap.size + 1) gP (irow .u8 (xout key info n (k + 1))) (by omega)).trans rP
      replace f4 := f4.belowN (n := 1 + 1) (by omega) (below_setRow (Below.refl _ _) (show 1 + 1 ≤ (w.heap.size + 1) by omega) (irow .u8 (xout key info n (k + 1))))
      replace hw := below_setRow hw (show w.heap.size ≤ (w.heap.size + 1) by omega) (irow .u8 (xout key info n (k + 1)))
      have hBL := Bys.of_row rP (by omega) hpb 32
      rw [hpl] at hBL
      clear hcl2 hst1 hxl r1 rP
      generalize eX1 : xout key info n (k + 1) = X1 at *
      replace eX1 := hide eX1
      generalize w4.setRow (w.heap.size + 1) (irow .u8 X1) = w5 at *
      go_wp2
      refine ⟨⟨k + 1, L0 ++ (info ++ [(k : Int) + 1]), by omega, by go_num, by rw [eL1.out]; exact hBL, (fun a l c h => by cases h; exact Nat.le_refl _), (fun a l c h _ => by cases h; show gP ≠ gM; omega), by rw [eX1.out]; exact r3, by rw [eM1.out]; exact r2, f4, hw⟩, ?_⟩
      simp [intOf]; omega
    · have hd : decide ((k : Int) * 32 < (n : Int)) = false := by simp; omega
      have hx := xout_end key info n k hk hlt
      rw [hx] at r1
      go_wp2
      go_ret2
      exact ⟨_, _, rfl, rfl, by omega, r1, hw⟩
set_option maxRecDepth 100000 in
set_option maxHeartbeats 8000000 in
theorem a_expand_no (key : List Int) (n : Int) (w : World) (vi : Value) (hn : n < 0 ∨ 8160 < n) :
    Calls Tryd.prog 22 #[.agg (irow .u8 key), vi, .int .i64 n] w fun e w' => ∃ v, e = .returned v ∧ v = .tuple #[.slice none 0 0, .int .i64 (if n < 0 then 1 else 2)] ∧ Below w.heap.size w w' := by
  have hw : Below w.heap.size w (w.alloc (.cells (irow .u8 key) 23)) := (Below.refl _ _).alloc (Nat.le_refl _) _
  rcases hn with hn | hn
  · have hd1 : decide (n < 0) = true := decide_eq_true hn
    rw [if_pos hn]
    go_enter Tryd.func22, Tryd.ntmps22
    go_wp2_with (first | (refine wpList_box rfl 23 _ rfl _ rfl (bK _) ?_) | fail)
    go_ret2
    exact ⟨_, rfl, rfl, hw⟩
  · have hd1 : decide (n < 0) = false := decide_eq_false (by omega)
    have hd2 : decide ((8160 : Int) < n) = true := decide_eq_true hn
    rw [if_neg (show ¬ n < 0 by omega)]
    go_enter Tryd.func22, Tryd.ntmps22
    go_wp2_with (first | (refine wpList_box rfl 23 _ rfl _ rfl (bK _) ?_) | fail)
    go_ret2
    exact ⟨_, rfl, rfl, hw⟩
/-- What an answer of Expand or Derive is. -/
def XAns (W : World) (lo : Nat) (v : Value) (key info : List Int) (n : Int) : Prop := (∃ (m : Nat) (g : Nat), n = (m : Int) ∧ m ≤ 8160 ∧ v = .tuple #[.slice (some ⟨g, 0, none⟩) m m, .int .i64 0] ∧ lo ≤ g ∧ W.heap[g]? = some (.cells (irow .u8 (xpd key info m)) 5 (0, 0))) ∨ ((n < 0 ∨ 8160 < n) ∧ v = .tuple #[.slice none 0 0, .int .i64 (if n < 0 then 1 else 2)])
theorem a_expand_any (key info : List Int) (n : Int) (w : World) (vi : Value) (hS : Sta w) (hK : Kon w) (hkl : key.length = 32) (hkz : ∀ z ∈ key, 0 ≤ z ∧ z < 256) (hI : Bys w vi info) (hci : ∀ a l c, vi = .slice a l c → l ≤ c) (hil : info.length ≤ 4611686018427370000) :
    Calls Tryd.prog 22 #[.agg (irow .u8 key), vi, .int .i64 n] w fun e w' => ∃ v, e = .returned v ∧ XAns w' w.heap.size v key info n ∧ Below w.heap.size w w' := by
  by_cases hn : n < 0 ∨ 8160 < n
  · refine (a_expand_no key n w vi hn).mono ?_
    rintro e_ w' ⟨v, rfl, rfl, hb⟩
    exact ⟨_, rfl, .inr ⟨hn, rfl⟩, hb⟩
  · obtain ⟨m, rfl⟩ := Int.eq_ofNat_of_zero_le (show 0 ≤ n by omega)
    refine (a_expand key info m w vi hS hK hkl hkz hI hci hil (by omega)).mono ?_
    rintro e_ w' ⟨v, g, rfl, rfl, hg, r, hb⟩
    exact ⟨_, rfl, .inl ⟨m, g, rfl, by omega, rfl, hg, r⟩, hb⟩
end Go.Proofs.YtamieopjigjfiaaDoor

namespace Go.Proofs.YtamieopjigjfiaaDoor
set_option maxRecDepth 100000
open Go Go.RowKit Go.Sort
attribute [local go_sem] setCell_drewN alloc_drewN

theorem wpList_append_own_want {P : Program} (w : World) {ops : Array Oper} {rest : List Oper} {o : Oper} {a : Act} {Q : Exit → Act → World → Prop} (hw : Region.wanted o (yielded ops a.tmps) = true) (s x : Operand) (t : TypeId)
    (ho : o.op = .call { callee := .builtin .append, args := #[s, x], argTypes := #[t, t] })
    (base : Nat) (e : TypeId) (i : TypeInfo) (z : Value) (ht : P.underlying t = some (.slice e)) (hi : P.info? e = some i) (hz : i.zero = some z)
    (hsize : i.size = 1) (hby : i.bytes = 1) (hzs : z.cells.size = 1)
    (v : Value) (n : Nat) (xs : List Value) (hs : a.eval s = v) (hown : w.ownsRow base e 1 v n xs)
    (ao : Option Addr) (m c : Nat) (news : List Value) (hx : a.eval x = .slice ao m c) (hl : news.length = m * 1) (hnone : ao = none → m = 0 ∧ c = 0) (hnews : ∀ ad, ao = some ad → ∀ j u, news[j]? = some u → w.cell? (ad.add j) = some u) (h1 : ∀ u ∈ news, u.oneCell' = true)
    (h63 : n + m ≤ maxLen) (hbytes : (n + m) * 1 ≤ 140737488355328) (hbase : base ≤ w.heap.size)
    (h : ∀ v' w', w'.ownsRow base e 1 v' (n + m) (xs ++ news) → w.grownBy w' v.ownBlock → wpList P ops Q rest (a.put o.dst v') w') : wpList P ops Q (o :: rest) a w := by
  refine BigFrame.wpList_want hw fun K hK' => ?_
  cases ao with
  | some ad => exact wp_append_own w s x t ho base e i z 1 1 ht hi hz hsize hby hzs (by decide) v n xs hs hown ad m c news hx hl (hnews ad rfl) h1 h63 hbytes hbase (fun v' w' h2 h3 _ => hK' _ _ (h v' w' h2 h3))
  | none =>
    obtain ⟨rfl, rfl⟩ := hnone rfl
    have hn0 : news = [] := List.eq_nil_of_length_eq_zero (by simpa using hl)
    subst hn0
    have hrun := run_append_owned_none (P := P) w base t o.type e i 1 ht hi _ n xs hown
    unfold Oper.wp
    simp [execOp, ho, resolve, invoke, builtin, hs, hx, hrun, Result.andThen]
    exact hK' _ _ (by simpa using h v w (by simpa using hown) (World.grownBy.refl _ _))
/-- Pieces of bytes, as they lie in a world. -/
def Pcs (W : World) (v : Value) (ps : List (List Int)) : Prop := ∃ ao cap, v = .slice ao ps.length cap ∧ ps.length ≤ 9223372036854775807 ∧ ∀ i, i < ps.length → ∃ b off u uc, ao = some ⟨b, off, none⟩ ∧ b < W.heap.size ∧ W.cell? ⟨b, off + i, none⟩ = some (.slice u (ps.getD i []).length uc) ∧ Bys W (.slice u (ps.getD i []).length uc) (ps.getD i []) ∧ (u = none → uc = 0)
/-- Bools, as they lie in a world. -/
def Bls (W : World) (v : Value) (qs : List Bool) : Prop := ∃ ao cap, v = .slice ao qs.length cap ∧ qs.length ≤ 9223372036854775807 ∧ ∀ i, i < qs.length → ∃ b off, ao = some ⟨b, off, none⟩ ∧ b < W.heap.size ∧ W.cell? ⟨b, off + i, none⟩ = some (.bool (qs.getD i false))
def flat (ps : List (List Int)) (k : Nat) : List Int := (ps.take k).flatten
theorem flat_next (ps : List (List Int)) (k : Nat) (hk : k < ps.length) : flat ps (k + 1) = flat ps k ++ ps.getD k [] := by
  unfold flat
  rw [List.take_add_one, List.flatten_append, List.getElem?_eq_getElem hk, List.getD_eq_getElem?_getD, List.getElem?_eq_getElem hk]
  simp
theorem flat_all (ps : List (List Int)) : flat ps ps.length = ps.flatten := by unfold flat; rw [List.take_length]
theorem flat_len (ps : List (List Int)) (k : Nat) : (flat ps k).length ≤ ps.flatten.length := by
  have h := congrArg List.flatten (List.take_append_drop k ps)
  rw [List.flatten_append] at h
  have := congrArg List.length h
  rw [List.length_append] at this
  unfold flat
  omega
theorem nilN (w : World) : BysN w (.slice none 0 0) [] := ⟨⟨none, 0, rfl, by decide, fun j hj => by simp at hj, by simp⟩, by decide, fun a l c h _ => by cases h; rfl⟩
theorem bys_none3 {W : World} {u : Option Addr} {uc : Nat} {bs : List Int} (hB : Bys W (.slice u bs.length uc) bs) (h : u = none → uc = 0) : u = none → bs.length = 0 ∧ uc = 0 := bys_none hB (fun a l c e ha => by injection e with e1 e2 e3; subst e1; rw [← e3]; exact h ha)
set_option maxRecDepth 100000 in
set_option maxHeartbeats 4000000 in
theorem r_joined (ps : List (List Int)) (w : World) (vp : Value) (hP : Pcs w vp ps) (hsz : ps.flatten.length ≤ 140737488355328) : Calls Tryd.prog 40 #[vp] w fun e w' => ∃ v, e = .returned v ∧ w'.ownsRow w.heap.size 5 1 v ps.flatten.length (ps.flatten.map (Value.int .u8)) ∧ Below w.heap.size w w' := by
  obtain ⟨pao, pcap, rfl, hpl, hpc⟩ := hP
  have hfl := flat_len ps
  have hfn := flat_next ps
  have hfa := flat_all ps
  obtain ⟨i0, hi, hz0, hz1, hz2⟩ := info8
  have hown0 : w.ownsRow w.heap.size 5 1 (.slice none 0 0) (flat ps 0).length ((flat ps 0).map (Value.int .u8)) := ⟨rfl, .inl ⟨rfl, rfl⟩⟩
  generalize enp : ps.length = np at *
  go_enter Tryd.func40, Tryd.ntmps40
  go_wp2_with (fail)
  go_loopw [3, 4] (fun x i wr => ∃ k : Nat, k ≤ np ∧ i = .int .i64 k ∧ wr.ownsRow w.heap.size 5 1 x (flat ps k).length ((flat ps k).map (Value.int .u8)) ∧ Below w.heap.size w wr) (fun _ i _ => np - (intOf i).toNat)
  case atStart => exact ⟨0, by omega, rfl, hown0, Below.refl _ _⟩
  case round =>
    clear hown0
    obtain ⟨k, hk, rfl, hown, hw⟩ := hrel
    obtain ⟨aox, capx, rfl⟩ := slen_own hown
    by_cases hlt : k < np
    · have hd : decide ((k : Int) < (np : Int)) = true := by simp; omega
      obtain ⟨b, off, u, uc, rfl, hb, hcell, hBk, hnu⟩ := hpc k hlt
      replace hcell := (hw.cell (p := ⟨b, off + k, none⟩) hb).trans hcell
      replace hBk := hBk.keep hw
      have hnone := bys_none3 hBk hnu
      have hnews := bys_cells hBk
      have h1 := hfl (k + 1)
      rw [hfn k (by omega), List.length_append] at h1
      have hfk := hfn k (by omega)
      clear hpc hfl hfn hBk
      generalize ps.getD k [] = P at *
      go_wp2_with (at_builtin; refine wpList_append_own_any _ rfl (.tmp 11) (.tmp 15) 29 rfl w.heap.size 5 i0 (.int .u8 0) Tryd.underlying29 hi hz0 hz1 hz2 rfl _ (flat ps k).length ((flat ps k).map (Value.int .u8)) rfl hown u P.length uc (P.map (Value.int .u8)) rfl (by simp) hnone hnews (ints_one .u8 _) (by unfold maxLen; omega) (by omega) hw.size ?_)
      intro v' w2 hown2 hgrow
      replace hw := hw.grown hgrow hw.size (fun k h => (hown.lt k h).1)
      rw [← List.map_append, ← List.length_append, ← hfk] at hown2
      clear hown hgrow
      obtain ⟨ao', cap', rfl⟩ := slen_own hown2
      go_wp2
      refine ⟨⟨k + 1, by omega, by go_num, hown2, hw⟩, ?_⟩
      simp [intOf]; omega
    · obtain rfl : k = np := by omega
      have hd : decide ((k : Int) < (k : Int)) = false := by simp
      replace hfa := hide hfa
      go_wp2
      go_ret
      rw [← hfa.out]
      exact ⟨_, rfl, hown, hw⟩
end Go.Proofs.YtamieopjigjfiaaDoor

namespace Go.Proofs.YtamieopjigjfiaaDoor
set_option maxRecDepth 100000
open Go Go.RowKit Go.Sort
attribute [local go_sem] setCell_drewN alloc_drewN

theorem zr_get (n j : Nat) : (zr n).getD j 0 = 0 := by
  rw [List.getD_eq_getElem?_getD]
  simp only [zr, List.getElem?_replicate]
  split <;> rfl
theorem getD_set_self (l : List Int) (j : Nat) (z : Int) (h : j < l.length) : (l.set j z).getD j 0 = z := by
  rw [List.getD_eq_getElem?_getD, List.getElem?_set_self h]; rfl
theorem cell_other (w : World) (a b : Addr) (v : Value) (h : b.block ≠ a.block) : (w.setCell a v).cell? b = w.cell? b := by
  simp only [World.cell?]
  rw [heap_setCell_other w a b.block v h]
set_option maxRecDepth 100000 in
set_option maxHeartbeats 4000000 in
theorem r_blockKey (key : List Int) (x : Int) (w : World) (v : Value) (hN : BysM w v key) : Calls Tryd.prog 63 #[v, .int .u8 x] w fun e w' => ∃ vr g, e = .returned vr ∧ vr = .slice (some ⟨g, 0, none⟩) 64 64 ∧ w.heap.size ≤ g ∧ w'.heap[g]? = some (.cells (irow .u8 (xl (kb64 key) x)) 5 (0, 0)) ∧ Below w.heap.size w w' := by
  have hmk : (Instr.makeSlice 29 (.int .i64 64) (.int .i64 64)).run Tryd.prog w = .ok (.slice (some ⟨w.heap.size, 0, none⟩) 64 64) (w.alloc (.cells (irow .u8 (zr 64)) 5)) := make_i64 64 (by decide) w
  have r0 := hp1_0 w (.cells (irow .u8 (zr 64)) 5)
  have hw : Below w.heap.size w (w.alloc (.cells (irow .u8 (zr 64)) 5)) := (Below.refl _ _).alloc (Nat.le_refl _) _
  have hne := bys_ne hN.1
  replace hN := hN.keep hw
  have hs0 := size_alloc1 w (.cells (irow .u8 (zr 64)) 5)
  by_cases hlong : 64 < key.length
  · have hd : decide ((64 : Int) < (key.length : Int)) = true := by simp; omega
    have hK : ksh key = sumL key := by rw [ksh, if_pos hlong]
    have hSl := sumL_len key
    have hSb := sumL_bd key
    rw [← hK] at hSl hSb
    have cS := fun (W : World) a => r_sumM key W v a
    rw [← hK] at cS
    clear hK
    obtain ⟨ao, cap, rfl, _⟩ := id hN.1
    go_enter Tryd.func63, Tryd.ntmps63
    go_wp2_with (fail)
    generalize w.alloc (.cells (irow .u8 (zr 64)) 5) = w0 at *
    refine (cS w0 hN).mono ?_
    rintro e_ w1 ⟨rfl, hb⟩
    replace r0 := keep hb r0
    replace hw := Below.after hw hb
    clear hb cS hN hs0
    have l0 := lt_of_row r0
    have r1 := hp1_0 w1 (.cells (irow .u8 (ksh key)) 23)
    have hba : Below w1.heap.size w1 (w1.alloc (.cells (irow .u8 (ksh key)) 23)) := (Below.refl _ _).alloc (Nat.le_refl _) _
    replace r0 := keep hba r0
    replace hw := Below.after hw hba
    have hBk := Bys.of_row r1 (by omega) hSb 32
    rw [hSl] at hBk
    have hnk : ∀ a : Addr, some (⟨w1.heap.size, 0, none⟩ : Addr) = some a → 0 < (ksh key).length → a.block ≠ w.heap.size := fun a h _ => by cases h; show w1.heap.size ≠ w.heap.size; omega
    clear hba r1
    go_wp2_with (first | (refine wpList_alloc rfl 23 rfl (irow .u8 (zr 32)) zkey ?_) | (refine wpList_store_row rfl 23 _ _ rfl (w1.heap.size) (irow .u8 (ksh key)) rfl rfl 23 _ (hp1_0 w1 _) (infok8 _ hSl) (fit32 _ _ (zr_len 32) hSl) (irow_one _ _) ?_; rw [setRow_alloc_new _ _ _ _ _ _ rfl]) | fail)
    generalize w1.alloc (.cells (irow .u8 (ksh key)) 23) = w2 at *
    generalize w1.heap.size = G1 at *
    have eN := hSl
    have hc : ∀ i, i < 32 → ∃ b off, some (⟨G1, 0, none⟩ : Addr) = some ⟨b, off, none⟩ ∧ b < w2.heap.size ∧ w2.cell? ⟨b, off + i, none⟩ = some (.int .u8 ((ksh key).getD i 0)) := by
      obtain ⟨ak, ck, ek, _, hc, _⟩ := hBk
      injection ek with ek1
      rw [ek1]
      rw [hSl] at hc
      exact hc
    have hKl : (ksh key).length ≤ 64 := ksh_len key
    have hget := kb64_get key
    have hkl := kb64_len key
    have hxl := xl_len (kb64 key) x
    have hxg := xl_get (kb64 key) x
    have hz64 := zr_len 64
    have hzg := zr_get 64
    rw [← mix_zero (xl (kb64 key) x) (zr 64)] at r0
    rw [eN] at hKl
    go_wp2
    go_loopw [8] (fun i wr => ∃ j : Nat, j ≤ 64 ∧ i = .int .i64 j ∧ wr.heap[w.heap.size]? = some (.cells (irow .u8 (mix (xl (kb64 key) x) (zr 64) j)) 5 (0, 0)) ∧ (∀ i, i < 32 → ∃ b off, some (⟨G1, 0, none⟩ : Addr) = some ⟨b, off, none⟩ ∧ b ≠ w.heap.size ∧ wr.cell? ⟨b, off + i, none⟩ = some (.int .u8 ((ksh key).getD i 0))) ∧ Below w.heap.size w wr) (fun i _ => 64 - (intOf i).toNat)
    case atStart => exact ⟨0, by omega, rfl, r0, (fun i hi => by obtain ⟨b, off, e, _, h⟩ := hc i hi; exact ⟨b, off, e, hnk ⟨b, off, none⟩ e (by omega), h⟩), hw⟩
    case round =>
      clear r0 hw hc
      obtain ⟨j, hj, rfl, r0, hc, hw⟩ := hrel
      by_cases hlt : j < 64
      · have hd : decide ((j : Int) < 64) = true := by simp; omega
        have hset := mix_set (xl (kb64 key) x) (zr 64) j (by rw [hxl, hkl, hz64]) (by omega)
        have hml := mix_length (xl (kb64 key) x) (zr 64) j (by rw [hxl, hkl, hz64]) (by omega)
        have hmg := mix_get (xl (kb64 key) x) (zr 64) j (by rw [hxl, hkl, hz64]) (by omega)
        rw [hxg j (by omega), hget j] at hset
        rw [hzg j] at hmg
        rw [hz64] at hml
        have c0 := irow_cell r0 (j := j) (by omega)
        rw [hmg] at c0
        have cf := row_frozen r0 j
        by_cases hin : j < 32
        · have hd2 : decide ((j : Int) < 32) = true := by simp; omega
          obtain ⟨b, off, eb, hbn, ck1⟩ := hc j hin
          cases eb
          try rw [Nat.zero_add] at ck1
          have r1 := irow_set r0 j ((ksh key).getD j 0)
          have c1 := irow_cell r1 (j := j) (by rw [List.length_set]; omega)
          rw [getD_set_self _ _ _ (by omega)] at c1
          have cf1 := row_frozen r1 j
          have r2 := irow_set r1 j (bits .xor .u8 ((ksh key).getD j 0) x)
          rw [List.set_set, hset] at r2
          have hc2 : ∀ i, i < 32 → ∃ b_ off_, some (⟨G1, 0, none⟩ : Addr) = some ⟨b_, off_, none⟩ ∧ b_ ≠ w.heap.size ∧ ((wr.setCell ⟨w.heap.size, j, none⟩ (.int .u8 ((ksh key).getD j 0))).setCell ⟨w.heap.size, j, none⟩ (.int .u8 (bits .xor .u8 ((ksh key).getD j 0) x))).cell? ⟨b_, off_ + i, none⟩ = some (.int .u8 ((ksh key).getD i 0)) := fun i hi => by
            obtain ⟨b', off', e, hbn', h⟩ := hc i hi
            refine ⟨b', off', e, hbn', ?_⟩
            rw [cell_other _ _ _ _ (by simp; omega), cell_other _ _ _ _ (by simp; omega)]
            exact h
          have hw' := (hw.setCell (show w.heap.size ≤ (⟨w.heap.size, j, none⟩ : Addr).block from Nat.le_refl _) (.int .u8 ((ksh key).getD j 0))).setCell (show w.heap.size ≤ (⟨w.heap.size, j, none⟩ : Addr).block from Nat.le_refl _) (.int .u8 (bits .xor .u8 ((ksh key).getD j 0) x))
          clear hset hmg hget hxg r0 r1 hw hc
          generalize (ksh key).getD j 0 = z at *
          go_wp2
          refine ⟨⟨j + 1, by omega, by go_num, r2, hc2, hw'⟩, ?_⟩
          simp [intOf]; omega
        · have hd2 : decide ((j : Int) < 32) = false := by simp; omega
          have e0 : (ksh key).getD j 0 = 0 := by rw [List.getD_eq_getElem?_getD, List.getElem?_eq_none (by omega)]; rfl
          rw [e0] at hset
          have r2 := irow_set r0 j (bits .xor .u8 0 x)
          rw [hset] at r2
          have hc2 : ∀ i, i < 32 → ∃ b_ off_, some (⟨G1, 0, none⟩ : Addr) = some ⟨b_, off_, none⟩ ∧ b_ ≠ w.heap.size ∧ (wr.setCell ⟨w.heap.size, j, none⟩ (.int .u8 (bits .xor .u8 0 x))).cell? ⟨b_, off_ + i, none⟩ = some (.int .u8 ((ksh key).getD i 0)) := fun i hi => by
            obtain ⟨b', off', e, hbn', h⟩ := hc i hi
            refine ⟨b', off', e, hbn', ?_⟩
            rw [cell_other _ _ _ _ (by simp; omega)]
            exact h
          have hw' := hw.setCell (show w.heap.size ≤ (⟨w.heap.size, j, none⟩ : Addr).block from Nat.le_refl _) (.int .u8 (bits .xor .u8 0 x))
          clear hset hmg hget hxg r0 hw hc e0
          go_wp2
          refine ⟨⟨j + 1, by omega, by go_num, r2, hc2, hw'⟩, ?_⟩
          simp [intOf]; omega
      · obtain rfl : j = 64 := by omega
        have hd : decide ((64 : Int) < 64) = false := by decide
        have e64 : mix (xl (kb64 key) x) (zr 64) 64 = xl (kb64 key) x := mix_all _ (zr 64) (by rw [hxl, hkl, hz64])
        rw [e64] at r0
        go_wp2
        go_ret
        exact ⟨_, _, rfl, rfl, Nat.le_refl _, r0, hw⟩
  · have hd : decide ((64 : Int) < (key.length : Int)) = false := by simp; omega
    have hK : ksh key = key := by rw [ksh, if_neg hlong]
    have hBk := hN.1
    obtain ⟨ao, cap, rfl, _⟩ := id hN.1
    have hnk : ∀ a : Addr, ao = some a → 0 < (ksh key).length → a.block ≠ w.heap.size := fun a h hl => by
      rw [hK] at hl
      have := hne a _ _ (by rw [h]) hl
      omega
    have eN : (ksh key).length = key.length := by rw [hK]
    have hc : ∀ i, i < key.length → ∃ b off, ao = some ⟨b, off, none⟩ ∧ b < (w.alloc (.cells (irow .u8 (zr 64)) 5)).heap.size ∧ (w.alloc (.cells (irow .u8 (zr 64)) 5)).cell? ⟨b, off + i, none⟩ = some (.int .u8 ((ksh key).getD i 0)) := by
      obtain ⟨ak, ck, ek, _, hc, _⟩ := hBk
      injection ek with ek1
      rw [ek1, hK]
      exact hc
    clear hK hBk hN hne
    generalize key.length = N at *
    go_enter Tryd.func63, Tryd.ntmps63
    go_wp2_with (fail)
    generalize w.alloc (.cells (irow .u8 (zr 64)) 5) = w2 at *
    have hKl : (ksh key).length ≤ 64 := ksh_len key
    have hget := kb64_get key
    have hkl := kb64_len key
    have hxl := xl_len (kb64 key) x
    have hxg := xl_get (kb64 key) x
    have hz64 := zr_len 64
    have hzg := zr_get 64
    rw [← mix_zero (xl (kb64 key) x) (zr 64)] at r0
    rw [eN] at hKl
    go_wp2
    go_loopw [8] (fun i wr => ∃ j : Nat, j ≤ 64 ∧ i = .int .i64 j ∧ wr.heap[w.heap.size]? = some (.cells (irow .u8 (mix (xl (kb64 key) x) (zr 64) j)) 5 (0, 0)) ∧ (∀ i, i < N → ∃ b off, ao = some ⟨b, off, none⟩ ∧ b ≠ w.heap.size ∧ wr.cell? ⟨b, off + i, none⟩ = some (.int .u8 ((ksh key).getD i 0))) ∧ Below w.heap.size w wr) (fun i _ => 64 - (intOf i).toNat)
    case atStart => exact ⟨0, by omega, rfl, r0, (fun i hi => by obtain ⟨b, off, e, _, h⟩ := hc i hi; exact ⟨b, off, e, hnk ⟨b, off, none⟩ e (by omega), h⟩), hw⟩
    case round =>
      clear r0 hw hc
      obtain ⟨j, hj, rfl, r0, hc, hw⟩ := hrel
      by_cases hlt : j < 64
      · have hd : decide ((j : Int) < 64) = true := by simp; omega
        have hset := mix_set (xl (kb64 key) x) (zr 64) j (by rw [hxl, hkl, hz64]) (by omega)
        have hml := mix_length (xl (kb64 key) x) (zr 64) j (by rw [hxl, hkl, hz64]) (by omega)
        have hmg := mix_get (xl (kb64 key) x) (zr 64) j (by rw [hxl, hkl, hz64]) (by omega)
        rw [hxg j (by omega), hget j] at hset
        rw [hzg j] at hmg
        rw [hz64] at hml
        have c0 := irow_cell r0 (j := j) (by omega)
        rw [hmg] at c0
        have cf := row_frozen r0 j
        by_cases hin : j < N
        · have hd2 : decide ((j : Int) < (N : Int)) = true := by simp; omega
          obtain ⟨b, off, eb, hbn, ck1⟩ := hc j hin
          subst eb
          try rw [Nat.zero_add] at ck1
          have r1 := irow_set r0 j ((ksh key).getD j 0)
          have c1 := irow_cell r1 (j := j) (by rw [List.length_set]; omega)
          rw [getD_set_self _ _ _ (by omega)] at c1
          have cf1 := row_frozen r1 j
          have r2 := irow_set r1 j (bits .xor .u8 ((ksh key).getD j 0) x)
          rw [List.set_set, hset] at r2
          have hc2 : ∀ i, i < N → ∃ b_ off_, some (⟨b, off, none⟩ : Addr) = some ⟨b_, off_, none⟩ ∧ b_ ≠ w.heap.size ∧ ((wr.setCell ⟨w.heap.size, j, none⟩ (.int .u8 ((ksh key).getD j 0))).setCell ⟨w.heap.size, j, none⟩ (.int .u8 (bits .xor .u8 ((ksh key).getD j 0) x))).cell? ⟨b_, off_ + i, none⟩ = some (.int .u8 ((ksh key).getD i 0)) := fun i hi => by
            obtain ⟨b', off', e, hbn', h⟩ := hc i hi
            refine ⟨b', off', e, hbn', ?_⟩
            rw [cell_other _ _ _ _ (by simp; omega), cell_other _ _ _ _ (by simp; omega)]
            exact h
          have hw' := (hw.setCell (show w.heap.size ≤ (⟨w.heap.size, j, none⟩ : Addr).block from Nat.le_refl _) (.int .u8 ((ksh key).getD j 0))).setCell (show w.heap.size ≤ (⟨w.heap.size, j, none⟩ : Addr).block from Nat.le_refl _) (.int .u8 (bits .xor .u8 ((ksh key).getD j 0) x))
          clear hset hmg hget hxg r0 r1 hw hc
          generalize (ksh key).getD j 0 = z at *
          go_wp2
          refine ⟨⟨j + 1, by omega, by go_num, r2, hc2, hw'⟩, ?_⟩
          simp [intOf]; omega
        · have hd2 : decide ((j : Int) < (N : Int)) = false := by simp; omega
          have e0 : (ksh key).getD j 0 = 0 := by rw [List.getD_eq_getElem?_getD, List.getElem?_eq_none (by omega)]; rfl
          rw [e0] at hset
          have r2 := irow_set r0 j (bits .xor .u8 0 x)
          rw [hset] at r2
          have hc2 : ∀ i, i < N → ∃ b_ off_, ao = some ⟨b_, off_, none⟩ ∧ b_ ≠ w.heap.size ∧ (wr.setCell ⟨w.heap.size, j, none⟩ (.int .u8 (bits .xor .u8 0 x))).cell? ⟨b_, off_ + i, none⟩ = some (.int .u8 ((ksh key).getD i 0)) := fun i hi => by
            obtain ⟨b', off', e, hbn', h⟩ := hc i hi
            refine ⟨b', off', e, hbn', ?_⟩
            rw [cell_other _ _ _ _ (by simp; omega)]
            exact h
          have hw' := hw.setCell (show w.heap.size ≤ (⟨w.heap.size, j, none⟩ : Addr).block from Nat.le_refl _) (.int .u8 (bits .xor .u8 0 x))
          clear hset hmg hget hxg r0 hw hc e0
          go_wp2
          refine ⟨⟨j + 1, by omega, by go_num, r2, hc2, hw'⟩, ?_⟩
          simp [intOf]; omega
      · obtain rfl : j = 64 := by omega
        have hd : decide ((64 : Int) < 64) = false := by decide
        have e64 : mix (xl (kb64 key) x) (zr 64) 64 = xl (kb64 key) x := mix_all _ (zr 64) (by rw [hxl, hkl, hz64])
        rw [e64] at r0
        go_wp2
        go_ret
        exact ⟨_, _, rfl, rfl, Nat.le_refl _, r0, hw⟩

end Go.Proofs.YtamieopjigjfiaaDoor

namespace Go.Proofs.YtamieopjigjfiaaDoor
set_option maxRecDepth 100000
open Go Go.RowKit Go.Sort
attribute [local go_sem] setCell_drewN alloc_drewN

/-- A call as one step of a region that draws, by a contract that names what it answers only behind it. -/
theorem step_call {P : Program} {ops : Array Oper} {o : Oper} {a : Act} {w : World} {K : Act → World → Prop} {Q : Exit → Act → World → Prop} {E : Prop} (f : FuncId) (args : Array Value) {R : Value → World → Prop}
    (hg : o.guard = none) (hx : (execOp a.eval o).run P w = .ok (.enter f args) w) (c : Calls P f args w fun e w' => ∃ v, e = .returned v ∧ R v w') (h : ∀ v w', R v w' → K (a.put o.dst v) w') :
    if Region.wanted o (yielded ops a.tmps) = true then Oper.wp P o a w K Q else E := by
  have hw : Region.wanted o (yielded ops a.tmps) = true := by simp [Region.wanted, hg]
  rw [if_pos hw]
  unfold Oper.wp
  rw [hx, Oper.upon_enter]
  exact c.mono fun e w' ⟨v, he, hb⟩ => by subst he; exact h v w' hb
/-- Bytes, and nil has no room. -/
def NB (W : World) (v : Value) (bs : List Int) : Prop := Bys W v bs ∧ (∀ a l c, v = .slice a l c → a = none → c = 0)
theorem NB.keep {W W' : World} {v : Value} {bs : List Int} (h : NB W v bs) (hb : Below W.heap.size W W') : NB W' v bs := ⟨h.1.keep hb, h.2⟩
theorem BysM.nb {W : World} {v : Value} {bs : List Int} (h : BysM W v bs) : NB W v bs := ⟨h.1, h.2.2⟩
theorem NB.m {W : World} {v : Value} {bs : List Int} (h : NB W v bs) (hl : bs.length ≤ 211106232532992) : BysM W v bs := ⟨h.1, hl, h.2⟩
theorem NB.of_row {W : World} {g : Nat} {l : List Int} {t : TypeId} (hg : W.heap[g]? = some (.cells (irow .u8 l) t (0, 0))) (hl : l.length ≤ 9223372036854775807) (hz : ∀ z ∈ l, 0 ≤ z ∧ z < 256) (n cap : Nat) (hn : l.length = n) : NB W (.slice (some ⟨g, 0, none⟩) n cap) l := ⟨by rw [← hn]; exact Bys.of_row hg hl hz cap, fun a _ _ h ha => by cases h; cases ha⟩
theorem NB.of_own {W : World} {b n : Nat} {v : Value} {l : List Int} (h : W.ownsRow b 5 1 v n (l.map (Value.int .u8))) (hl : l.length ≤ 9223372036854775807) (hz : ∀ z ∈ l, 0 ≤ z ∧ z < 256) : NB W v l := ⟨Bys.of_own h hl hz, own_nil h⟩
theorem nb_nil (W : World) : NB W (.slice none 0 0) [] := ⟨bys_nil W, fun a l c h _ => by cases h; rfl⟩
theorem NB.form {W : World} {v : Value} {bs : List Int} (h : NB W v bs) : ∃ u uc, v = .slice u bs.length uc ∧ (u = none → uc = 0) := by
  obtain ⟨⟨u, uc, rfl, _⟩, hn⟩ := h
  exact ⟨u, uc, rfl, hn _ _ _ rfl⟩
/-- A row of lists of bytes. -/
theorem Pcs.of_row {W : World} {g : Nat} {t : TypeId} {vs : List Value} {ps : List (List Int)} (hg : W.heap[g]? = some (.cells vs.toArray t (0, 0))) (hl : vs.length = ps.length) (hs : ps.length ≤ 9223372036854775807) (h : ∀ i v, vs[i]? = some v → NB W v (ps.getD i [])) (n : Nat) (hn : ps.length = n) : Pcs W (.slice (some ⟨g, 0, none⟩) n n) ps := by
  subst hn
  refine ⟨_, _, rfl, hs, fun i hi => ?_⟩
  have hv : vs[i]? = some vs[i] := List.getElem?_eq_getElem (by omega)
  have hb := h i _ hv
  obtain ⟨u, uc, e, hu⟩ := hb.form
  refine ⟨g, 0, u, uc, rfl, lt_of_row hg, ?_, by rw [← e]; exact hb.1, hu⟩
  rw [Nat.zero_add, cell_of hg (by rw [List.getElem?_toArray]; exact hv), e]
theorem Pcs.two {W : World} {g : Nat} {t : TypeId} {v0 v1 : Value} {a b : List Int} (hg : W.heap[g]? = some (.cells #[v0, v1] t (0, 0))) (h0 : NB W v0 a) (h1 : NB W v1 b) : Pcs W (.slice (some ⟨g, 0, none⟩) 2 2) [a, b] :=
  Pcs.of_row (vs := [v0, v1]) hg rfl (by simp) (fun i v hv => by
    match i, hv with
    | 0, hv => cases hv; exact h0
    | 1, hv => cases hv; exact h1
    | (k + 2), hv => simp at hv) 2 rfl
theorem Pcs.three {W : World} {g : Nat} {t : TypeId} {v0 v1 v2 : Value} {a b c : List Int} (hg : W.heap[g]? = some (.cells #[v0, v1, v2] t (0, 0))) (h0 : NB W v0 a) (h1 : NB W v1 b) (h2 : NB W v2 c) : Pcs W (.slice (some ⟨g, 0, none⟩) 3 3) [a, b, c] :=
  Pcs.of_row (vs := [v0, v1, v2]) hg rfl (by simp) (fun i v hv => by
    match i, hv with
    | 0, hv => cases hv; exact h0
    | 1, hv => cases hv; exact h1
    | 2, hv => cases hv; exact h2
    | (k + 3), hv => simp at hv) 3 rfl
theorem Pcs.one {W : World} {g : Nat} {t : TypeId} {v0 : Value} {a : List Int} (hg : W.heap[g]? = some (.cells #[v0] t (0, 0))) (h0 : NB W v0 a) : Pcs W (.slice (some ⟨g, 0, none⟩) 1 1) [a] :=
  Pcs.of_row (vs := [v0]) hg rfl (by simp) (fun i v hv => by
    match i, hv with
    | 0, hv => cases hv; exact h0
    | (k + 1), hv => simp at hv) 1 rfl
theorem slice_k (g : Nat) (W : World) : (Instr.sliceAt 23 (.pointer (some ⟨g, 0, none⟩)) none none none).run Tryd.prog W = .ok (.slice (some ⟨g, 0, none⟩) 32 32) W := by kernel_rfl
theorem storeK {W : World} {g : Nat} {old l : List Int} {t : TypeId} (hg : W.heap[g]? = some (.cells (irow .u8 old) t (0, 0))) (ho : old.length = 32) (hl : l.length = 32) : (storeCells ⟨g, 0, none⟩ (irow .u8 l).toList).run Tryd.prog W = .ok () (W.setRow g (irow .u8 l)) := by
  have h := run_storeCells_from (P := Tryd.prog) g t (irow .u8 l).toList 0 (irow .u8 old) W hg (by rw [Array.length_toList, irow_size, irow_size]; omega) (fun v hv => (Array.all_eq_true_iff_forall_mem.1 (irow_one .u8 l)) v (by simpa using hv))
  rw [h, List.take_zero, List.nil_append, Array.toArray_toList]
set_option maxRecDepth 100000 in
set_option maxHeartbeats 4000000 in
theorem r_sum4 (key bs : List Int) (w : World) (vk vb : Value) (hK : BysM w vk key) (hB : BysM w vb bs) (hbl : bs.length ≤ 140737488355264) : Calls Tryd.prog 39 #[vk, vb] w fun e w' => e = .returned (.agg (irow .u8 (hm key bs))) ∧ Below w.heap.size w w' := by
  have hL1 := sumL_len (kin key ++ bs)
  have hL2 := hm_len key bs
  have hB1 := sumL_bd (kin key ++ bs)
  have hil := kin_len key
  have hol := kout_len key
  have hbz := bys_bd hB.1
  have hB0 := hB
  have r4 := hp1_0 w (.cells (irow .u8 (zr 32)) 23)
  have hw : Below w.heap.size w (w.alloc (.cells (irow .u8 (zr 32)) 23)) := (Below.refl _ _).alloc (Nat.le_refl _) _
  replace hK := hK.keep hw
  replace hB := hB.keep hw
  go_enter Tryd.func39, Tryd.ntmps39
  go_wp2_with (first | (refine wpList_alloc rfl 23 rfl (irow .u8 (zr 32)) zkey ?_) | fail)
  generalize w.alloc (.cells (irow .u8 (zr 32)) 23) = w0 at *
  refine (r_blockKey key 54 w0 vk hK).mono ?_
  rintro e_ w1 ⟨vr, g1, rfl, rfl, hg1, r1, hb⟩
  replace r4 := keep hb r4
  replace hK := hK.keep hb
  replace hB := hB.keep hb
  replace hw := Below.after hw hb
  clear hb hg1
  change w1.heap[g1]? = some (.cells (irow .u8 (kin key)) 5 (0, 0)) at r1
  have hba : Below w1.heap.size w1 (w1.alloc (.cells #[.slice (some ⟨g1, 0, none⟩) 64 64, vb] 29)) := (Below.refl _ _).alloc (Nat.le_refl _) _
  have hP := Pcs.two (hp1_0 w1 (.cells #[.slice (some ⟨g1, 0, none⟩) 64 64, vb] 29)) (NB.of_row (keep hba r1) (by omega) (kin_bd key) 64 64 hil) (hB.nb.keep hba)
  replace r4 := keep hba r4
  replace hK := hK.keep hba
  replace hw := Below.after hw hba
  clear hba r1 hB
  obtain ⟨ub, ubc, rfl, _⟩ : ∃ u uc, vb = .slice u bs.length uc ∧ True := by obtain ⟨u, uc, e, _⟩ := hB0.1; exact ⟨u, uc, e, trivial⟩
  go_wp2_with (fail)
  generalize w1.alloc (.cells #[.slice (some ⟨g1, 0, none⟩) 64 64, .slice ub bs.length ubc] 29) = w2 at *
  refine (r_joined [kin key, bs] w2 _ hP (by simp; omega)).mono ?_
  rintro e_ w3 ⟨vj, rfl, hown, hb⟩
  replace r4 := keep hb r4
  replace hK := hK.keep hb
  replace hw := Below.after hw hb
  clear hb hP
  have ef : [kin key, bs].flatten = kin key ++ bs := by simp
  rw [ef] at hown
  have hM := NB.of_own hown (by rw [List.length_append]; omega) (both_bd (kin_bd key) hbz)
  clear hown ef
  go_wp2_with (fail)
  refine (r_sumM (kin key ++ bs) w3 vj (hM.m (by rw [List.length_append]; omega))).mono ?_
  rintro e_ w4 ⟨rfl, hb⟩
  replace r4 := keep hb r4
  replace hK := hK.keep hb
  replace hw := Below.after hw hb
  clear hb hM
  have eH : hm key bs = sumL (kout key ++ sumL (kin key ++ bs)) := rfl
  rw [eH] at hL2
  replace eH := hide eH
  generalize sumL (kin key ++ bs) = I at *
  have r5 := hp1_0 w4 (.cells (irow .u8 I) 23)
  have hba : Below w4.heap.size w4 (w4.alloc (.cells (irow .u8 I) 23)) := (Below.refl _ _).alloc (Nat.le_refl _) _
  replace r4 := keep hba r4
  replace hK := hK.keep hba
  have hw5 := Below.after hw hba
  clear hba
  go_wp2_with (first | (refine wpList_alloc rfl 23 rfl (irow .u8 (zr 32)) zkey ?_) | (refine wpList_store_row rfl 23 _ _ rfl (w4.heap.size) (irow .u8 I) rfl rfl 23 _ (hp1_0 w4 _) (infok8 _ hL1) (fit32 _ _ (zr_len 32) hL1) (irow_one _ _) ?_; rw [setRow_alloc_new _ _ _ _ _ _ rfl]) | fail)
  replace hw := hw5
  clear hw5
  generalize w4.alloc (.cells (irow .u8 I) 23) = w5 at *
  generalize w4.heap.size = G5 at *
  have sk := slice_k G5
  have hbd : Below w5.heap.size w5 w5.drew := below_drN (Below.refl _ _) 1
  replace r4 := keep hbd r4
  replace r5 := keep hbd r5
  replace hK := hK.keep hbd
  replace hw := Below.after hw hbd
  clear hbd
  refine wp_region_noPanic ?_
  have ef : [kout key, I].flatten = kout key ++ I := by simp
  go_region_law
    ((first
      | (refine step_call (R := fun v w' => ∃ g, v = .slice (some ⟨g, 0, none⟩) 64 64 ∧ w5.drew.heap.size ≤ g ∧ w'.heap[g]? = some (.cells (irow .u8 (kout key)) 5 (0, 0)) ∧ Below w5.drew.heap.size w5.drew w') 63 _ (by rfl) (by kernel_rfl) ((r_blockKey key 92 _ vk hK).mono fun e w' ⟨vr, g, e1, h⟩ => ⟨vr, e1, g, h⟩) ?_
         rintro v6 w6 ⟨g6, rfl, hg6, r6, hb6⟩
         have hba : Below w6.heap.size w6 (w6.alloc (.cells #[.slice (some ⟨g6, 0, none⟩) 64 64, .slice (some ⟨G5, 0, none⟩) 32 32] 29)) := (Below.refl _ _).alloc (Nat.le_refl _) _
         have hP := Pcs.two (hp1_0 w6 (.cells #[.slice (some ⟨g6, 0, none⟩) 64 64, .slice (some ⟨G5, 0, none⟩) 32 32] 29)) (NB.of_row (keep hba r6) (by omega) (kout_bd key) 64 64 hol) (NB.of_row (keep hba (keep hb6 r5)) (by omega) hB1 32 32 hL1)
         replace r4 := keep hba (keep hb6 r4)
         replace hw := Below.after (Below.after hw hb6) hba
         clear hba hb6)
      | (refine step_call (R := fun v w' => w'.ownsRow (w6.alloc (.cells #[.slice (some ⟨g6, 0, none⟩) 64 64, .slice (some ⟨G5, 0, none⟩) 32 32] 29)).heap.size 5 1 v [kout key, I].flatten.length ([kout key, I].flatten.map (Value.int .u8)) ∧ Below (w6.alloc (.cells #[.slice (some ⟨g6, 0, none⟩) 64 64, .slice (some ⟨G5, 0, none⟩) 32 32] 29)).heap.size (w6.alloc (.cells #[.slice (some ⟨g6, 0, none⟩) 64 64, .slice (some ⟨G5, 0, none⟩) 32 32] 29)) w') 40 _ (by rfl) (by kernel_rfl) (r_joined [kout key, I] _ _ hP (by simp; omega)) ?_
         rintro v8 w8 ⟨hown, hb8⟩
         rw [ef] at hown
         have hM := (NB.of_own hown (by rw [List.length_append]; omega) (both_bd (kout_bd key) hB1)).m (by rw [List.length_append]; omega)
         replace r4 := keep hb8 r4
         replace hw := Below.after hw hb8
         clear hown hb8)
      | (refine step_call (R := fun v w' => v = .agg (irow .u8 (sumL (kout key ++ I))) ∧ Below w8.heap.size w8 w') 62 _ (by rfl) (by kernel_rfl) ((r_sumM (kout key ++ I) _ v8 hM).mono fun e w' ⟨e1, h⟩ => ⟨_, e1, rfl, h⟩) ?_
         rintro v9 w9 ⟨rfl, hb9⟩
         replace r4 := keep hb9 r4
         replace hw := Below.after hw hb9
         have hsv := storeK r4 (zr_len 32) hL2
         have hsz := (irow_size .u8 (sumL (kout key ++ I))).trans hL2
         clear hb9)))
  refine NoPanic.normal ?_
  replace r4 := setRow_heap w9 (w.heap.size) _ (irow .u8 (sumL (kout key ++ I))) _ _ r4
  replace hw := below_setRow hw (Nat.le_refl _) (irow .u8 (sumL (kout key ++ I)))
  clear hsv
  generalize w9.setRow (w.heap.size) (irow .u8 (sumL (kout key ++ I))) = wz at *
  go_wp2
  exact bodyPost_ret (v := .agg (irow .u8 (sumL (kout key ++ I)))) (results_cell_row Tryd.results39 _ _ (w.heap.size) _ _ _ _ rfl r4 Tryd.underlying23 rfl (infok8 _ hL2)) rfl ⟨by rw [eH.out], hw⟩

end Go.Proofs.YtamieopjigjfiaaDoor

namespace Go.Proofs.YtamieopjigjfiaaDoor
set_option maxRecDepth 100000
open Go Go.RowKit Go.Sort
attribute [local go_sem] setCell_drewN alloc_drewN

theorem NB.grown {W W' : World} {v : Value} {bs : List Int} {row : Option Nat} (h : NB W v bs) (hb : W.grownBy W' row) (hne : ∀ a l c, v = .slice (some a) l c → 0 < l → row ≠ some a.block) : NB W' v bs := by
  obtain ⟨⟨ao, cap, rfl, hl, hc, hz⟩, hn⟩ := h
  refine ⟨⟨ao, cap, rfl, hl, fun j hj => ?_, hz⟩, hn⟩
  obtain ⟨b, off, rfl, h1, h2⟩ := hc j hj
  have hn' := hne ⟨b, off, none⟩ _ _ rfl (by omega)
  exact ⟨b, off, rfl, Nat.lt_of_lt_of_le h1 hb.size, hb.cell h2 (by intro e; exact hn' e.symm)⟩
theorem ex1 {f : FuncId} {args : Array Value} {w : World} {v : Value} {B : World → Prop} (h : Calls Tryd.prog f args w fun e w' => e = .returned v ∧ B w') : Calls Tryd.prog f args w fun e w' => ∃ u, e = .returned u ∧ (u = v ∧ B w') := h.mono fun _ _ ⟨h1, h2⟩ => ⟨v, h1, rfl, h2⟩
theorem wrap8 (x : Int) (h0 : 0 ≤ x) (h1 : x < 256) : IntKind.u8.wrap x = x := by
  simp [IntKind.wrap, IntKind.bits, IntKind.signed]
  exact Int.emod_eq_of_lt h0 h1
theorem fin_row {wr W : World} {g : Nat} {old P : Array Value} {t : TypeId} (hb : Below wr.heap.size wr W) (hg : wr.heap.size ≤ g) (r : W.heap[g]? = some (.cells old t (0, 0))) : ∃ Wf, Wf = W.setRow g P ∧ Wf.heap[g]? = some (.cells P t (0, 0)) ∧ Below wr.heap.size wr Wf ∧ wr.heap.size ≤ g := ⟨_, rfl, setRow_heap W g _ P _ _ r, below_setRow hb hg P, hg⟩
theorem own_cap {W : World} {b n : Nat} {T : TypeId} {v : Value} {xs : List Value} (h : W.ownsRow b T 1 v n xs) : ∀ a l c, v = .slice a l c → l ≤ c := by
  intro a l c e
  obtain ⟨_, ⟨rfl, _⟩ | ⟨g, cap, cur, rfl, _, _, h3, _⟩⟩ := h
  · cases e; exact Nat.le_refl _
  · cases e; exact h3
theorem slice_to (ao : Option Addr) (len cap n : Nat) (h : n ≤ cap) (W : World) : (Instr.sliceAt 29 (.slice ao len cap) none (some (.int .i64 (n : Int))) none).run Tryd.prog W = .ok (.slice ao n cap) W := by
  rw [run_sliceAt_slice _ _ _ _ _ _ elem8, run_slice_h W 29 ao len cap elem8 .i64 _ (by omega) (by omega), size8]
  show Result.ok (sliced _ _ _ _ 1) W = _
  rw [Int.toNat_natCast, sliced, Nat.zero_mul]
  by_cases e : cap = 0
  · rw [if_pos e]; rfl
  · rw [if_neg e]
    cases ao <;> rfl
theorem Bys.take {W : World} {ao : Option Addr} {cap n : Nat} {bs : List Int} (h : Bys W (.slice ao bs.length cap) bs) (hn : n ≤ bs.length) : Bys W (.slice ao n cap) (bs.take n) := by
  obtain ⟨ao', cap', e, hl, hc, hz⟩ := h
  cases e
  have hln : (bs.take n).length = n := by rw [List.length_take]; omega
  refine ⟨ao, cap, by rw [hln], by omega, fun j hj => ?_, fun z h => hz z (List.mem_of_mem_take h)⟩
  obtain ⟨b, off, e, h1, h2⟩ := hc j (by omega)
  refine ⟨b, off, e, h1, ?_⟩
  rw [h2, List.getD_eq_getElem?_getD, List.getD_eq_getElem?_getD, List.getElem?_take_of_lt (by omega)]
/-- What the two roads come to. -/
theorem bel2 (w : World) (a b : Obj) : Below w.heap.size w ((w.alloc a).alloc b) := ((Below.refl _ _).alloc (Nat.le_refl _) _).alloc (by simp) _
theorem bel3 (w : World) (a b c : Obj) : Below w.heap.size w (((w.alloc a).alloc b).alloc c) := (((Below.refl _ _).alloc (Nat.le_refl _) _).alloc (by simp) _).alloc (by simp; omega) _
theorem pieces3 {W V : World} {g1 g3 : Nat} {t t3 : TypeId} {v0 v1 : Value} {a b : List Int} {x : Int} (hb : Below W.heap.size W V) (h0 : NB W v0 a) (h1 : NB W v1 b) (r1 : V.heap[g1]? = some (.cells #[.int .u8 x] t (0, 0))) (hx : ∀ z ∈ [x], 0 ≤ z ∧ z < 256) (r3 : V.heap[g3]? = some (.cells #[v0, v1, .slice (some ⟨g1, 0, none⟩) 1 1] t3 (0, 0))) : Pcs V (.slice (some ⟨g3, 0, none⟩) 3 3) [a, b, [x]] :=
  Pcs.three r3 (h0.keep hb) (h1.keep hb) (NB.of_row (l := [x]) r1 (by simp) hx 1 1 rfl)
set_option maxRecDepth 100000 in
set_option maxHeartbeats 4000000 in
theorem r_expand4 (key info : List Int) (n : Nat) (w : World) (vi : Value) (hkl : key.length = 32) (hkz : ∀ z ∈ key, 0 ≤ z ∧ z < 256) (hI : BysM w vi info) (hil : info.length ≤ 140737488355200) (hn : n ≤ 8160) :
    Calls Tryd.prog 25 #[.agg (irow .u8 key), vi, .int .i64 (n : Int)] w fun e w' => ∃ v, e = .returned (.tuple #[v, .int .i64 0]) ∧ NB w' v (xpd key info n) ∧ Below w.heap.size w w' := by
  have r0 := hp1_0 w (.cells (irow .u8 key) 23)
  have hw : Below w.heap.size w (w.alloc (.cells (irow .u8 key) 23)) := (Below.refl _ _).alloc (Nat.le_refl _) _
  have hd1 : decide ((n : Int) < 0) = false := by simp
  have hd2 : decide ((8160 : Int) < (n : Int)) = false := by simp; omega
  obtain ⟨aoi, capi, rfl, _⟩ := id hI.1
  go_enter Tryd.func25, Tryd.ntmps25
  go_wp2_with (first | (refine wpList_box rfl 23 _ rfl _ rfl (bK _) ?_) | fail)
  generalize w.alloc (.cells (irow .u8 key) 23) = w0 at *
  clear hd1 hd2
  have hs0 := hw.size
  have hown0 : w0.ownsRow (w.heap.size + 1) 5 1 (.slice none 0 0) (32 * 0) ((tall key info 0).map (Value.int .u8)) := ⟨rfl, .inl ⟨rfl, rfl⟩⟩
  go_loopw [8, 9, 10] (fun va vl i wr => ∃ k : Nat, k ≤ (n + 31) / 32 ∧ i = .int .i64 ((k : Int) + 1) ∧ wr.ownsRow (w.heap.size + 1) 5 1 va (32 * k) ((tall key info k).map (Value.int .u8)) ∧ NB wr vl (tp key info k) ∧ wr.heap[w.heap.size]? = some (.cells (irow .u8 key) 23 (0, 0)) ∧ Below w.heap.size w wr) (fun _ _ i _ => (n + 31) / 32 + 1 - (intOf i).toNat)
  case atStart => exact ⟨0, by omega, rfl, hown0, nb_nil _, r0, hw⟩
  case round =>
    clear r0 hw hown0 hs0
    obtain ⟨k, hk, rfl, hown, hL, r0, hw⟩ := hrel
    obtain ⟨aoa, capa, rfl⟩ := slen_own hown
    obtain ⟨aol, capl, rfl, hnl⟩ := hL.form
    by_cases hlt : 32 * k < n
    · have hd : decide (((32 * k : Nat) : Int) < (n : Int)) = true := by simp; omega
      have hmod : IntKind.u8.wrap ((k : Int) + 1) = (k : Int) + 1 := wrap8 _ (by omega) (by omega)
      have sk := slice_k w.heap.size
      have hbd : Below wr.heap.size wr wr.drew := below_drN (Below.refl _ _) 1
      go_wp2
      have hzk := zkey
      have hI2 := hI.nb.keep hw
      have hpz := hm_bd key (tp key info k ++ (info ++ [(k : Int) + 1]))
      have hpl := hm_len key (tp key info k ++ (info ++ [(k : Int) + 1]))
      have hinz := bys_bd hI.1
      have htl := tp_le key info k
      have htz := tp_bd key info k
      have ef : [tp key info k, info, [(k : Int) + 1]].flatten = tp key info k ++ (info ++ [(k : Int) + 1]) := by simp
      have efl : (tp key info k ++ (info ++ [(k : Int) + 1])).length ≤ 140737488355264 := by simp; omega
      have efz : ∀ z ∈ tp key info k ++ (info ++ [(k : Int) + 1]), 0 ≤ z ∧ z < 256 := both_bd htz (both_bd hinz (fun z h => by simp at h; omega))
      have h1z : ∀ z ∈ [(k : Int) + 1], 0 ≤ z ∧ z < 256 := fun z h => by simp at h; omega
      have hK8 : ∀ W, Below wr.heap.size wr W → BysM W (.slice (some ⟨w.heap.size, 0, none⟩) 32 32) key := fun W hW => (NB.of_row (keep hW r0) (by omega) hkz 32 32 hkl).m (by omega)
      replace hK8 := hide hK8
      replace h1z := hide h1z
      replace efz := hide efz
      refine wp_region_noPanic ?_
      go_region_law
        ((first
          | (refine step_call 40 _ (by rfl) (by kernel_rfl) (r_joined [tp key info k, info, [(k : Int) + 1]] _ _ (pieces3 (W := wr) (below_drN (bel2 wr _ _) 1) hL hI2 (hp2_0 wr _ _) h1z.out (hp2_1 wr _ _)) (by rw [ef]; omega)) ?_
             rintro v8 w8 ⟨hown8, hb8⟩
             rw [ef] at hown8
             have hM := (NB.of_own hown8 (by omega) efz.out).m (by omega)
             have hb8' : Below wr.heap.size wr w8 := Below.after (below_drN (bel2 wr _ _) 1) hb8
             skip
             clear hb8 hown8)
          | (refine step_call 40 _ (by rfl) (by kernel_rfl) (r_joined [tp key info k, info, [(k : Int) + 1]] _ _ (pieces3 (W := wr) (below_drN (bel3 wr _ _ _) 1) hL hI2 (hp3_1 wr _ _ _) h1z.out (hp3_2 wr _ _ _)) (by rw [ef]; omega)) ?_
             rintro v8 w8 ⟨hown8, hb8⟩
             rw [ef] at hown8
             have hM := (NB.of_own hown8 (by omega) efz.out).m (by omega)
             have hb8' : Below wr.heap.size wr w8 := Below.after (below_drN (bel3 wr _ _ _) 1) hb8
             have rZ : w8.heap[wr.heap.size]? = some (.cells (irow .u8 (zr 32)) 23 (0, 0)) := keep hb8 (hp3_0 wr _ _ _)
             clear hb8 hown8)
          | (refine step_call 40 _ (by rfl) (by kernel_rfl) (r_joined [tp key info k, info, [(k : Int) + 1]] _ _ (pieces3 (W := wr) (below_drN (bel3 wr _ _ _) 1) hL hI2 (hp3_0 wr _ _ _) h1z.out (hp3_2 wr _ _ _)) (by rw [ef]; omega)) ?_
             rintro v8 w8 ⟨hown8, hb8⟩
             rw [ef] at hown8
             have hM := (NB.of_own hown8 (by omega) efz.out).m (by omega)
             have hb8' : Below wr.heap.size wr w8 := Below.after (below_drN (bel3 wr _ _ _) 1) hb8
             have rZ : w8.heap[wr.heap.size + 1]? = some (.cells (irow .u8 (zr 32)) 23 (0, 0)) := keep hb8 (hp3_1 wr _ _ _)
             clear hb8 hown8)
          | (refine step_call 40 _ (by rfl) (by kernel_rfl) (r_joined [tp key info k, info, [(k : Int) + 1]] _ _ (pieces3 (W := wr) (below_drN (bel3 wr _ _ _) 1) hL hI2 (hp3_0 wr _ _ _) h1z.out (hp3_1 wr _ _ _)) (by rw [ef]; omega)) ?_
             rintro v8 w8 ⟨hown8, hb8⟩
             rw [ef] at hown8
             have hM := (NB.of_own hown8 (by omega) efz.out).m (by omega)
             have hb8' : Below wr.heap.size wr w8 := Below.after (below_drN (bel3 wr _ _ _) 1) hb8
             have rZ : w8.heap[wr.heap.size + 1 + 1]? = some (.cells (irow .u8 (zr 32)) 23 (0, 0)) := keep hb8 (hp3_2 wr _ _ _)
             clear hb8 hown8)
          | (refine step_call 39 _ (by rfl) (by kernel_rfl) (ex1 (r_sum4 key (tp key info k ++ (info ++ [(k : Int) + 1])) _ _ _ (hK8.out _ (by first | exact hb8' | exact hb8'.alloc hb8'.size _)) (by first | exact hM | exact hM.keep ((Below.refl _ _).alloc (Nat.le_refl _) _)) efl)) ?_
             rintro v9 w9 ⟨rfl, hb9⟩
             have h89 : Below w8.heap.size w8 w9 := by first | exact hb9 | exact Below.after ((Below.refl _ _).alloc (Nat.le_refl _) _) hb9
             have hsz := (irow_size .u8 (hm key (tp key info k ++ (info ++ [(k : Int) + 1])))).trans hpl
             try (replace rZ := keep h89 rZ)
             try (have rZ : w9.heap[w8.heap.size]? = some (.cells (irow .u8 (zr 32)) 23 (0, 0)) := keep hb9 (hp1_0 w8 _))
             try (have hs0 := storeK rZ (zr_len 32) hpl)
             have hs4 : (storeCells ⟨w9.heap.size, 0, none⟩ (irow .u8 (hm key (tp key info k ++ (info ++ [(k : Int) + 1])))).toList).run Tryd.prog (w9.alloc (.cells #[.int .u8 0, .int .u8 0, .int .u8 0, .int .u8 0, .int .u8 0, .int .u8 0, .int .u8 0, .int .u8 0, .int .u8 0, .int .u8 0, .int .u8 0, .int .u8 0, .int .u8 0, .int .u8 0, .int .u8 0, .int .u8 0, .int .u8 0, .int .u8 0, .int .u8 0, .int .u8 0, .int .u8 0, .int .u8 0, .int .u8 0, .int .u8 0, .int .u8 0, .int .u8 0, .int .u8 0, .int .u8 0, .int .u8 0, .int .u8 0, .int .u8 0, .int .u8 0] 23)) = .ok () ((w9.alloc (.cells #[.int .u8 0, .int .u8 0, .int .u8 0, .int .u8 0, .int .u8 0, .int .u8 0, .int .u8 0, .int .u8 0, .int .u8 0, .int .u8 0, .int .u8 0, .int .u8 0, .int .u8 0, .int .u8 0, .int .u8 0, .int .u8 0, .int .u8 0, .int .u8 0, .int .u8 0, .int .u8 0, .int .u8 0, .int .u8 0, .int .u8 0, .int .u8 0, .int .u8 0, .int .u8 0, .int .u8 0, .int .u8 0, .int .u8 0, .int .u8 0, .int .u8 0, .int .u8 0] 23)).setRow w9.heap.size (irow .u8 (hm key (tp key info k ++ (info ++ [(k : Int) + 1]))))) := storeK (hp1_0 w9 (.cells (irow .u8 (zr 32)) 23)) (zr_len 32) hpl
             have hb9' := Below.after hb8' h89
             have hs8 := hb8'.size
             have hs9 := hb9'.size
             clear hb9 h89 hM)))
      all_goals (refine NoPanic.normal ?_)
      all_goals (first
        | (obtain ⟨wf, ewf, r11, hbf, lw⟩ := fin_row (P := irow .u8 (hm key (tp key info k ++ (info ++ [(k : Int) + 1])))) hb9' (by omega) rZ; rw [← ewf])
        | (obtain ⟨wf, ewf, r11, hbf, lw⟩ := fin_row (P := irow .u8 (hm key (tp key info k ++ (info ++ [(k : Int) + 1])))) (hb9'.alloc hb9'.size _) (by omega) (hp1_0 w9 (.cells #[.int .u8 0, .int .u8 0, .int .u8 0, .int .u8 0, .int .u8 0, .int .u8 0, .int .u8 0, .int .u8 0, .int .u8 0, .int .u8 0, .int .u8 0, .int .u8 0, .int .u8 0, .int .u8 0, .int .u8 0, .int .u8 0, .int .u8 0, .int .u8 0, .int .u8 0, .int .u8 0, .int .u8 0, .int .u8 0, .int .u8 0, .int .u8 0, .int .u8 0, .int .u8 0, .int .u8 0, .int .u8 0, .int .u8 0, .int .u8 0, .int .u8 0, .int .u8 0] 23)); rw [← ewf]))
      all_goals
        replace hown := own_keep hown hbf
        replace r0 := keep hbf r0
        replace hw := Below.after hw hbf
        have sk11 := slice_k
        have up12 : ∀ g, (Value.slice aoa (32 * k) capa).ownBlock = some g → g < wf.heap.size := fun g h => (hown.lt g h).2
        replace up12 := hide up12
        clear hs4 hbf ewf hb9' hs8 hs9 hb8' hsz hK8 h1z hI2 hzk sk
        try clear rZ
        try clear hs0
        go_wp2_with (fail)
        refine (r_joined [hm key (tp key info k ++ (info ++ [(k : Int) + 1]))] _ _ (Pcs.one (hp1_0 wf _) (NB.of_row (keep ((Below.refl _ _).alloc (Nat.le_refl _) _) r11) (by omega) hpz 32 32 hpl)) (by simp; omega)).mono ?_
        rintro e_ w12 ⟨v12, rfl, own12, hb12⟩
        have e12 : [hm key (tp key info k ++ (info ++ [(k : Int) + 1]))].flatten = tp key info (k + 1) := by rw [tp]; simp
        rw [e12] at own12
        have htn := tp_len key info k
        rw [htn] at own12
        replace hb12 := Below.after ((Below.refl _ _).alloc (Nat.le_refl _) _) hb12
        have lo12 : ∀ g, v12.ownBlock = some g → wf.heap.size < g := fun g h => by have := (own12.lt g h).1; rw [size_alloc1] at this; omega
        replace lo12 := hide lo12
        replace hown := own_keep hown hb12
        replace r0 := keep hb12 r0
        replace hw := Below.after hw hb12
        clear hb12 e12 r11 sk11
        have hM12 := NB.of_own own12 (by omega) (tp_bd key info (k + 1))
        obtain ⟨ao12, cap12, rfl⟩ := slen_own own12
        have hB12 := hM12.1
        rw [← htn] at hB12
        have hnone := bys_none3 hB12 (own_nil own12 _ _ _ rfl)
        have hnews := bys_cells hB12
        rw [htn] at hnone
        have l0 := lt_of_row r0
        obtain ⟨i0, hi, hz0, hz1, hz2⟩ := info8
        go_wp2_with (at_builtin; refine wpList_append_own_any _ rfl (.tmp 34) (.tmp 35) 29 rfl (w.heap.size + 1) 5 i0 (.int .u8 0) Tryd.underlying29 hi hz0 hz1 hz2 rfl _ (32 * k) ((tall key info k).map (Value.int .u8)) rfl hown ao12 32 cap12 ((tp key info (k + 1)).map (Value.int .u8)) rfl (by rw [List.length_map, htn]) hnone hnews (ints_one .u8 _) (by unfold maxLen; omega) (by omega) (by omega) ?_)
        intro va' w13 own13 hgr
        have hM13 := hM12.grown hgr (fun a l c e _ h => by
          have h1 := up12.out _ h
          have h2 := lo12.out a.block (by rw [e]; rfl)
          omega)
        have r13 : w13.heap[w.heap.size]? = some (.cells (irow .u8 key) 23 (0, 0)) := (hgr.block _ l0 (by intro e; have := (hown.lt _ e.symm).1; omega)).trans r0
        replace hw := hw.grown hgr hw.size (fun k h => by have := (hown.lt k h).1; omega)
        rw [← List.map_append, show 32 * k + 32 = 32 * (k + 1) by omega, ← tall] at own13
        clear hgr hown r0 hM12 hB12 hnews hnone own12 lo12 up12
        obtain ⟨ao13, cap13, rfl⟩ := slen_own own13
        go_wp2
        refine ⟨⟨k + 1, by omega, by go_num, own13, hM13, r13, hw⟩, ?_⟩
        simp [intOf]; omega
    · have hd : decide (((32 * k : Nat) : Int) < (n : Int)) = false := by simp; omega
      have hcp := own_cap hown _ _ _ rfl
      have sl := slice_to aoa (32 * k) capa n (by omega)
      have hAll := NB.of_own hown (by rw [tall_len]; omega) (tall_bd key info k)
      have hx : xpd key info n = (tall key info k).take n := by rw [xpd, show (n + 31) / 32 = k by omega]
      have hB1 := hAll.1
      rw [← tall_len key info k] at hB1
      have hT := Bys.take (n := n) hB1 (by rw [tall_len]; omega)
      have hnn := own_nil hown _ _ _ rfl
      clear hown hAll hB1
      go_wp2
      go_ret2
      exact ⟨_, rfl, ⟨by rw [hx]; exact hT, fun a l c e ha => by cases e; exact hnn ha⟩, hw⟩

end Go.Proofs.YtamieopjigjfiaaDoor

namespace Go.Proofs.YtamieopjigjfiaaDoor
set_option maxRecDepth 100000
open Go Go.RowKit Go.Sort

/-- Boxes on lists: bytes as BitVec 8. -/
def lb (l : List Int) : List B := l.map fun z => BitVec.ofNat 8 z.toNat
theorem lb_len (l : List Int) : (lb l).length = l.length := by simp [lb]
theorem bl_lb : ∀ {l : List Int}, (∀ z ∈ l, 0 ≤ z ∧ z < 256) → bl (lb l) = l
  | [], _ => rfl
  | z :: l, h => by
    have h1 := h z (by simp)
    have h2 := bl_lb (l := l) (fun y hy => h y (by simp [hy]))
    have e : bv (BitVec.ofNat 8 z.toNat) = z := by
      simp only [bv, BitVec.toNat_ofNat]
      omega
    show bv (BitVec.ofNat 8 z.toNat) :: bl (lb l) = z :: l
    rw [e, h2]
theorem bl_app (a b : List B) : bl (a ++ b) = bl a ++ bl b := by simp [bl]
theorem bl_take (a : List B) (n : Nat) : bl (a.take n) = (bl a).take n := by simp [bl, List.map_take]
theorem bl_drop (a : List B) (n : Nat) : bl (a.drop n) = (bl a).drop n := by simp [bl, List.map_drop]
theorem bl_inj {a b : List B} (h : bl a = bl b) : a = b := by
  induction a generalizing b with
  | nil => cases b with
    | nil => rfl
    | cons y b => simp [bl] at h
  | cons x a ih => cases b with
    | nil => simp [bl] at h
    | cons y b =>
      simp only [bl, List.map_cons, List.cons.injEq] at h
      rw [bv_inj.1 h.1, ih h.2]
theorem bl_dec (a b : List B) : decide (bl a = bl b) = decide (a = b) := by
  by_cases h : a = b
  · subst h; simp
  · rw [decide_eq_false h, decide_eq_false (fun e => h (bl_inj e))]
/-- The nine bytes. -/
def ps9 : List Int := [112, 97, 119, 108, 32, 115, 101, 97, 108]
theorem ps9_bd : ∀ z ∈ ps9, 0 ≤ z ∧ z < 256 := by decide
/-- The two keys that a key is for. -/
def ck (key : List B) : List B := lb ((xpd (bl key) ps9 64).take 32)
def tk (key : List B) : List B := lb ((xpd (bl key) ps9 64).drop 32)
theorem ck_len (key : List B) : (ck key).length = 32 := by simp [ck, lb_len, xpd_len]
theorem tk_len (key : List B) : (tk key).length = 32 := by simp [tk, lb_len, xpd_len]
theorem bl_ck (key : List B) : bl (ck key) = (xpd (bl key) ps9 64).take 32 := bl_lb (fun z h => xpd_bd _ _ _ z (List.mem_of_mem_take h))
theorem bl_tk (key : List B) : bl (tk key) = (xpd (bl key) ps9 64).drop 32 := bl_lb (fun z h => xpd_bd _ _ _ z (List.mem_of_mem_drop h))
theorem ck_tk (key : List B) : bl (ck key) ++ bl (tk key) = xpd (bl key) ps9 64 := by rw [bl_ck, bl_tk, List.take_append_drop]
/-- A number's eight bytes, the lowest first. -/
def n8f (n i : Nat) : Int := ((n / 256 ^ i % 256 : Nat) : Int)
def n8 (n : Nat) : List Int := (List.range 8).map (n8f n)
theorem n8_len (n : Nat) : (n8 n).length = 8 := by simp [n8]
theorem n8_bd (n : Nat) : ∀ z ∈ n8 n, 0 ≤ z ∧ z < 256 := by
  intro z h
  obtain ⟨i, _, rfl⟩ := List.mem_map.1 h
  simp only [n8f]
  omega
theorem n8_succ (n k : Nat) (h : k < 8) : (n8 n).take (k + 1) = (n8 n).take k ++ [n8f n k] := by
  rw [List.take_add_one]
  congr 1
  simp [n8, List.getElem?_range h]
theorem n8_lit (n : Nat) : n8 n = [(n : Int) % 256, (n : Int) / 256 % 256, (n : Int) / 65536 % 256, (n : Int) / 16777216 % 256, (n : Int) / 4294967296 % 256, (n : Int) / 1099511627776 % 256, (n : Int) / 281474976710656 % 256, (n : Int) / 72057594037927936 % 256] := by
  show [n8f n 0, n8f n 1, n8f n 2, n8f n 3, n8f n 4, n8f n 5, n8f n 6, n8f n 7] = _
  simp only [n8f, Nat.reducePow, Nat.div_one]
  congr 1
/-- What stands under a tag. -/
def und (nonce extra text : List B) : List Int := n8 extra.length ++ (bl extra ++ (bl nonce ++ bl text))
theorem und_len (nonce extra text : List B) : (und nonce extra text).length = 8 + (extra.length + (nonce.length + text.length)) := by simp [und, n8_len, bl_len]
theorem und_bd (nonce extra text : List B) : ∀ z ∈ und nonce extra text, 0 ≤ z ∧ z < 256 := both_bd (n8_bd _) (both_bd (bl_bnd _) (both_bd (bl_bnd _) (bl_bnd _)))
theorem und_flat (nonce extra text : List B) : [n8 extra.length, bl extra, bl nonce, bl text].flatten = und nonce extra text := by simp [und]
/-- The whole sum, and the tag. -/
def su (key nonce extra text : List B) : List Int := hm (bl (tk key)) (und nonce extra text)
def tg (key nonce extra text : List B) : List B := lb ((su key nonce extra text).take 16)
theorem su_len (key nonce extra text : List B) : (su key nonce extra text).length = 32 := hm_len _ _
theorem su_bd (key nonce extra text : List B) : ∀ z ∈ su key nonce extra text, 0 ≤ z ∧ z < 256 := hm_bd _ _
theorem tg_len (key nonce extra text : List B) : (tg key nonce extra text).length = 16 := by simp [tg, lb_len, su_len]
theorem bl_tg (key nonce extra text : List B) : bl (tg key nonce extra text) = (su key nonce extra text).take 16 := bl_lb (fun z h => su_bd _ _ _ _ z (List.mem_of_mem_take h))
/-- A text under the stream, and the box. -/
def cfx (key nonce text : List B) : List B := cry (ks (ck key) 60) nonce 0 text
theorem cfx_len (key nonce text : List B) : (cfx key nonce text).length = text.length := cry_len _ _ _ _
theorem cfx_cph (key nonce text : List B) : cfx key nonce (cfx key nonce text) = text := cry_cry _ _ _ _
def bx (key nonce extra text : List B) : List B := cfx key nonce text ++ tg key nonce extra (cfx key nonce text)
theorem bx_len (key nonce extra text : List B) : (bx key nonce extra text).length = text.length + 16 := by simp [bx, cfx_len, tg_len]
/-- What Open answers of bytes: the text of a box, if it is one. -/
theorem bx_text (key nonce extra text : List B) : (bx key nonce extra text).take text.length = cfx key nonce text := by
  rw [bx, List.take_append_of_le_length (by rw [cfx_len]; omega), List.take_of_length_le (by rw [cfx_len]; omega)]
theorem bx_tag (key nonce extra text : List B) : (bx key nonce extra text).drop text.length = tg key nonce extra (cfx key nonce text) := by
  rw [bx, List.drop_append_of_le_length (by rw [cfx_len]; omega), List.drop_eq_nil_of_le (by rw [cfx_len]; omega), List.nil_append]
end Go.Proofs.YtamieopjigjfiaaDoor

namespace Go.Proofs.YtamieopjigjfiaaDoor
set_option maxRecDepth 100000
open Go Go.RowKit Go.Sort
attribute [local go_sem] setCell_drewN alloc_drewN

variable {P : Program} {ops : Array Oper} {Q : Exit → Act → World → Prop} {md : Region.Mode} {S : World → Prop}
/-- Either of two operations may come up. -/
theorem wpAnyH_two {j k : Nat} {oj ok : Oper} {fuel : Nat} {listed : Array Bool} {a : Act} {w : World} (hr : Region.ready md ops listed = [j, k]) (hj : ops[j]? = some oj) (hk : ops[k]? = some ok) (wj : Region.wanted oj (yielded ops a.tmps) = true) (wk : Region.wanted ok (yielded ops a.tmps) = true)
    (h1 : ∀ K : Act → World → Prop, (∀ a' w', S w' → wpAnyH P md ops Q S fuel (listed.setIfInBounds j true) a' w' → K a' w') → oj.wp P a w K Q)
    (h2 : ∀ K : Act → World → Prop, (∀ a' w', S w' → wpAnyH P md ops Q S fuel (listed.setIfInBounds k true) a' w' → K a' w') → ok.wp P a w K Q) : wpAnyH P md ops Q S (fuel + 1) listed a w := by
  refine wpAnyH_all hr (by simp) (fun i hi' => ?_)
  obtain rfl | rfl : i = j ∨ i = k := by simpa using hi'
  · unfold wpOp
    simp only [hj, wj, if_true]
    exact .inl (h1 _ (fun a' w' hS hn => ⟨hS, hn⟩))
  · unfold wpOp
    simp only [hk, wk, if_true]
    exact .inl (h2 _ (fun a' w' hS hn => ⟨hS, hn⟩))
/-- Two results that lie in rows. -/
theorem results_cell2_row {fn : Func} {p q : Tmp} {ty : TypeId} (h : fn.results = #[.cell p ty, .cell q ty]) (tmps : Array Value) (w : World) (g k : Nat) (t u : TypeId) (cs ds : Array Value) (fr gr : Nat × Nat) (d : TypeDesc)
    (hp : tmps.getD p undef = .pointer (some ⟨g, 0, none⟩)) (hq : tmps.getD q undef = .pointer (some ⟨k, 0, none⟩)) (hg : w.heap[g]? = some (.cells cs t fr)) (hk : w.heap[k]? = some (.cells ds u gr))
    (hu : P.underlying ty = some d) (hd : (match d with | .struct _ | .array _ _ => true | _ => false) = true) (hi : (P.info? ty).map (·.size) = some cs.size) (hj : (P.info? ty).map (·.size) = some ds.size) :
    (results fn tmps).run P w = .ok (.tuple #[.agg cs, .agg ds]) w := by
  have hp' : tmps[p]?.getD undef = .pointer (some ⟨g, 0, none⟩) := by simpa using hp
  have hq' : tmps[q]?.getD undef = .pointer (some ⟨k, 0, none⟩) := by simpa using hq
  simp [results, h, hp', hq', asAddr, run_loadVar_row w g t ty cs fr d hg hu hd hi, run_loadVar_row w k u ty ds gr d hk hu hd hj]
theorem mk8 (w : World) : (Instr.makeSlice 29 (.int .i64 8) (.int .i64 8)).run Tryd.prog w = .ok (.slice (some ⟨w.heap.size, 0, none⟩) 8 8) (w.alloc (.cells #[.int .u8 0, .int .u8 0, .int .u8 0, .int .u8 0, .int .u8 0, .int .u8 0, .int .u8 0, .int .u8 0] 5)) := by kernel_rfl
set_option maxRecDepth 100000 in
set_option maxHeartbeats 4000000 in
theorem a_eight (n : Nat) (hn : n < 18446744073709551616) (w : World) : Calls Tryd.prog 43 #[.int .u64 (n : Int)] w fun e w' => ∃ v, e = .returned v ∧ ∃ g, v = .slice (some ⟨g, 0, none⟩) 8 8 ∧ w.heap.size ≤ g ∧ w'.heap[g]? = some (.cells (irow .u8 (n8 n)) 5 (0, 0)) ∧ Below w.heap.size w w' := by
  have hmk := mk8 w
  go_enter Tryd.func43, Tryd.ntmps43
  go_wp2
  refine wp_loop_rounds 9 ?_
  rw [rounds_succ]; go_wp2
  rw [rounds_succ]; go_wp2
  rw [rounds_succ]; go_wp2
  rw [rounds_succ]; go_wp2
  rw [rounds_succ]; go_wp2
  rw [rounds_succ]; go_wp2
  rw [rounds_succ]; go_wp2
  rw [rounds_succ]; go_wp2
  rw [rounds_succ]; go_wp2
  go_ret
  refine ⟨_, rfl, w.heap.size, rfl, Nat.le_refl _, ?_, ?_⟩
  · rw [n8_lit, show (n : Int) / 72057594037927936 % 256 = (n : Int) / 72057594037927936 by omega]
    exact hp1_0 w _
  · exact (Below.refl _ _).alloc (Nat.le_refl _) _
theorem arr_k (g o c : Nat) (W : World) : (Instr.arrayAt 23 (.slice (some ⟨g, o, none⟩) 32 c)).run Tryd.prog W = .ok (.pointer (some ⟨g, o, none⟩)) W := by kernel_rfl
theorem sl_lo (g : Nat) (W : World) : (Instr.sliceAt 29 (.slice (some ⟨g, 0, none⟩) 64 64) none (some (.int .i64 32)) none).run Tryd.prog W = .ok (.slice (some ⟨g, 0, none⟩) 32 64) W := by kernel_rfl
theorem sl_hi (g : Nat) (W : World) : (Instr.sliceAt 29 (.slice (some ⟨g, 0, none⟩) 64 64) (some (.int .i64 32)) none none).run Tryd.prog W = .ok (.slice (some ⟨g, 32, none⟩) 32 32) W := by kernel_rfl
theorem irow_take (l : List Int) (n : Nat) (k : IntKind) (h : n ≤ l.length) : (irow k l).extract 0 (0 + (irow k (l.take n)).size) = irow k (l.take n) := by
  apply Array.ext'
  simp [irow, List.map_take, h]
theorem irow_drop (l : List Int) (n : Nat) (k : IntKind) : (irow k l).extract n (n + (irow k (l.drop n)).size) = irow k (l.drop n) := by
  apply Array.ext'
  simp only [irow, List.extract_toArray, List.extract_eq_take_drop, List.map_drop, List.size_toArray, List.length_drop, List.length_map, Nat.add_sub_cancel_left]
  exact List.take_of_length_le (by simp)
theorem bys_rowF {W : World} {g n : Nat} {l : List Int} {t : TypeId} {fr : Nat × Nat} (hg : W.heap[g]? = some (.cells (irow .u8 l) t fr)) (hl : l.length ≤ 9223372036854775807) (hz : ∀ z ∈ l, 0 ≤ z ∧ z < 256) (hn : l.length = n) {cap : Nat} : Bys W (.slice (some ⟨g, 0, none⟩) n cap) l := by
  subst hn
  refine ⟨_, _, rfl, hl, fun j hj => ⟨g, 0, rfl, lt_of_row hg, ?_⟩, hz⟩
  rw [Nat.zero_add, cell_of_row _ _ _ _ _ _ hg]
  simp [irow, List.getD_eq_getElem?_getD, List.getElem?_eq_getElem hj]
theorem ps9_bys (W : World) : Bys (W.alloc (.cells #[.int .u8 112, .int .u8 97, .int .u8 119, .int .u8 108, .int .u8 32, .int .u8 115, .int .u8 101, .int .u8 97, .int .u8 108] 5 (9, 10))) (.slice (some ⟨W.heap.size, 0, none⟩) 9 9) ps9 := bys_rowF (l := ps9) (hp1_0 W _) (by decide) ps9_bd rfl
set_option maxRecDepth 100000 in
set_option maxHeartbeats 4000000 in
theorem a_keys (key : List B) (hk : key.length = 32) (w : World) (hS : Sta w) (hK : Kon w) : Calls Tryd.prog 9 #[.agg (irow .u8 (bl key))] w fun e w' => e = .returned (.tuple #[.agg (irow .u8 (bl (ck key))), .agg (irow .u8 (bl (tk key)))]) ∧ Below w.heap.size w w' := by
  have hkl : (bl key).length = 32 := by rw [bl_len, hk]
  have xck : (irow .u8 (xpd (bl key) ps9 64)).extract 0 (0 + (irow .u8 (bl (ck key))).size) = irow .u8 (bl (ck key)) := by rw [bl_ck]; exact irow_take _ _ _ (by rw [xpd_len]; decide)
  have xtk : (irow .u8 (xpd (bl key) ps9 64)).extract 32 (32 + (irow .u8 (bl (tk key))).size) = irow .u8 (bl (tk key)) := by rw [bl_tk]; exact irow_drop _ _ _
  have R0 := hp3_0 w (.cells (irow .u8 (bl key)) 23) (.cells (irow .u8 (zr 32)) 23) (.cells (irow .u8 (zr 32)) 23)
  have R1 := hp3_1 w (.cells (irow .u8 (bl key)) 23) (.cells (irow .u8 (zr 32)) 23) (.cells (irow .u8 (zr 32)) 23)
  have R2 := hp3_2 w (.cells (irow .u8 (bl key)) 23) (.cells (irow .u8 (zr 32)) 23) (.cells (irow .u8 (zr 32)) 23)
  have hw : Below w.heap.size w (((w.alloc (.cells (irow .u8 (bl key)) 23)).alloc (.cells (irow .u8 (zr 32)) 23)).alloc (.cells (irow .u8 (zr 32)) 23)) := ((((Below.refl _ _).alloc (Nat.le_refl _) _).alloc (by simp) _).alloc (by simp; omega) _)
  have hz0 : (((w.alloc (.cells (irow .u8 (bl key)) 23)).alloc (.cells (irow .u8 (zr 32)) 23)).alloc (.cells (irow .u8 (zr 32)) 23)).heap.size = w.heap.size + 1 + 1 + 1 := by rw [size_alloc1, size_alloc1, size_alloc1]
  have cvs : (convert 29 29 (.slice (some ⟨w.heap.size + 1 + 1 + 1, 0, none⟩) 9 9)).run Tryd.prog ((((w.alloc (.cells (irow .u8 (bl key)) 23)).alloc (.cells (irow .u8 (zr 32)) 23)).alloc (.cells (irow .u8 (zr 32)) 23)).alloc (.cells #[.int .u8 112, .int .u8 97, .int .u8 119, .int .u8 108, .int .u8 32, .int .u8 115, .int .u8 101, .int .u8 97, .int .u8 108] 5)) = .ok (.slice (some ⟨w.heap.size + 1 + 1 + 1, 0, none⟩) 9 9) ((((w.alloc (.cells (irow .u8 (bl key)) 23)).alloc (.cells (irow .u8 (zr 32)) 23)).alloc (.cells (irow .u8 (zr 32)) 23)).alloc (.cells #[.int .u8 112, .int .u8 97, .int .u8 119, .int .u8 108, .int .u8 32, .int .u8 115, .int .u8 101, .int .u8 97, .int .u8 108] 5 (9, 10))) := by
    have h := Go.Lib.run_convert_bytes_const (P := Tryd.prog) (((w.alloc (.cells (irow .u8 (bl key)) 23)).alloc (.cells (irow .u8 (zr 32)) 23)).alloc (.cells (irow .u8 (zr 32)) 23)) 29 5 #[.int .u8 112, .int .u8 97, .int .u8 119, .int .u8 108, .int .u8 32, .int .u8 115, .int .u8 101, .int .u8 97, .int .u8 108] 9 9 Tryd.underlying29 Tryd.underlying5
    rw [hz0] at h
    exact h
  go_enter Tryd.func9, Tryd.ntmps9
  go_wp2_with (first | (refine wpList_box rfl 23 _ rfl _ rfl (bK _) ?_) | (refine wpList_alloc rfl 23 rfl (irow .u8 (zr 32)) zkey ?_) | (refine wpList_load_want rfl 23 _ rfl (w.heap.size) rfl 23 (irow .u8 (bl key)) (0, 0) _ R0 Tryd.underlying23 rfl (infok8 _ hkl) ?_) | fail)
  try simp only [size_alloc1, Act.put, List.setIfInBounds_toArray, List.set_cons_succ, List.set_cons_zero]
  clear cvs
  generalize (((w.alloc (.cells (irow .u8 (bl key)) 23)).alloc (.cells (irow .u8 (zr 32)) 23)).alloc (.cells (irow .u8 (zr 32)) 23)) = w0 at *
  have hba : Below w0.heap.size w0 (w0.alloc (.cells #[.int .u8 112, .int .u8 97, .int .u8 119, .int .u8 108, .int .u8 32, .int .u8 115, .int .u8 101, .int .u8 97, .int .u8 108] 5 (9, 10))) := (Below.refl _ _).alloc (Nat.le_refl _) _
  have hI := ps9_bys w0
  rw [hz0] at hI
  replace R1 := keep hba R1
  replace R2 := keep hba R2
  replace hw := Below.after hw hba
  generalize w0.alloc (.cells #[.int .u8 112, .int .u8 97, .int .u8 119, .int .u8 108, .int .u8 32, .int .u8 115, .int .u8 101, .int .u8 97, .int .u8 108] 5 (9, 10)) = w1 at *
  have cX := a_expand (bl key) ps9 64 w1 _ (hS.below hw) (hK.below hw) hkl (bl_bnd _) hI (fun a l c h => by cases h; exact Nat.le_refl _) (by decide) (by decide)
  clear hba hI R0 hz0
  refine cX.mono ?_
  rintro e_ w2 ⟨v_, g, rfl, rfl, lg, rg, hb⟩
  replace lg : w1.heap.size ≤ g := lg
  have l1 := lt_of_row R1
  have l2 := lt_of_row R2
  replace R1 := keep hb R1
  replace R2 := keep hb R2
  replace hw := Below.after hw hb
  clear hb cX
  have ap0 := arr_k g 0 64
  have ap1 := arr_k g 32 32
  have s0 := sl_lo g
  have s1 := sl_hi g
  go_wp2_with (fail)
  have hbd : Below w2.heap.size w2 w2.drew := below_drN (Below.refl _ _) 1
  replace R1 := keep hbd R1
  replace R2 := keep hbd R2
  replace rg := keep hbd rg
  replace hw := Below.after hw hbd
  clear hbd
  refine wp_region_noPanic ?_
  refine wp_region_held (S := fun W => W.heap[g]? = some (.cells (irow .u8 (xpd (bl key) ps9 64)) 5 (0, 0))) (by kernel_rfl) ?_
  change wpAnyH _ _ _ _ _ _ _ _ (World.drew _)
  generalize w2.drew = w3 at *
  refine wpAnyH_take (i := 0) (v := ?v1) rfl (by kernel_rfl) (by kernel_rfl) (by kernel_rfl) (fun _ _ _ h => h) (Or.inl ⟨by rfl, ?y1⟩) rg ?r1
  case y1 =>
    intro w_ hS_
    go_simp
    try with_reducible rfl
  simp only [Act.put, List.getElem_toArray, List.getElem_cons_zero, List.setIfInBounds_toArray, List.set_cons_succ, List.set_cons_zero]
  refine wpAnyH_take (i := 1) (v := ?v2) rfl (by kernel_rfl) (by kernel_rfl) (by kernel_rfl) (fun _ _ _ h => h) (Or.inl ⟨by rfl, ?y2⟩) rg ?r2
  case y2 =>
    intro w_ hS_
    go_simp
    try with_reducible rfl
  simp only [Act.put, List.getElem_toArray, List.getElem_cons_succ, List.getElem_cons_zero, List.setIfInBounds_toArray, List.set_cons_succ, List.set_cons_zero]
  refine wpAnyH_take (i := 2) (v := ?v3) rfl (by kernel_rfl) (by kernel_rfl) (by kernel_rfl) (fun _ _ _ h => h) (Or.inl ⟨by rfl, ?y3⟩) rg ?r3
  case y3 =>
    intro w_ hS_
    go_simp
    try with_reducible rfl
  simp only [Act.put, List.getElem_toArray, List.getElem_cons_succ, List.getElem_cons_zero, List.setIfInBounds_toArray, List.set_cons_succ, List.set_cons_zero]
  refine wpAnyH_take (i := 3) (v := .agg (irow .u8 (bl (ck key)))) rfl (by kernel_rfl) (by kernel_rfl) (by kernel_rfl) (fun _ _ _ h => h) (Or.inl ⟨by rfl, ?y4⟩) rg ?r4
  case y4 =>
    intro w_ hS_
    simp only [List.getElem_toArray, List.getElem_cons_succ, List.getElem_cons_zero]
    exact run_load_part 23 _ (by rfl) g 0 (by rfl) 5 (irow .u8 (xpd (bl key) ps9 64)) (0, 0) (irow .u8 (bl (ck key))) _ hS_ xck Tryd.underlying23 rfl (infok8 _ (by rw [bl_len, ck_len]))
  simp only [Act.put, List.getElem_toArray, List.getElem_cons_succ, List.getElem_cons_zero, List.setIfInBounds_toArray, List.set_cons_succ, List.set_cons_zero]
  refine wpAnyH_take (i := 4) (v := ?v5) rfl (by kernel_rfl) (by kernel_rfl) (by kernel_rfl) (fun _ _ _ h => h) (Or.inl ⟨by rfl, ?y5⟩) rg ?r5
  case y5 =>
    intro w_ hS_
    go_simp
    try with_reducible rfl
  simp only [Act.put, List.getElem_toArray, List.getElem_cons_succ, List.getElem_cons_zero, List.setIfInBounds_toArray, List.set_cons_succ, List.set_cons_zero]
  refine wpAnyH_take (i := 5) (v := ?v6) rfl (by kernel_rfl) (by kernel_rfl) (by kernel_rfl) (fun _ _ _ h => h) (Or.inl ⟨by rfl, ?y6⟩) rg ?r6
  case y6 =>
    intro w_ hS_
    go_simp
    try with_reducible rfl
  simp only [Act.put, List.getElem_toArray, List.getElem_cons_succ, List.getElem_cons_zero, List.setIfInBounds_toArray, List.set_cons_succ, List.set_cons_zero]
  refine wpAnyH_take (i := 6) (v := ?v7) rfl (by kernel_rfl) (by kernel_rfl) (by kernel_rfl) (fun _ _ _ h => h) (Or.inl ⟨by rfl, ?y7⟩) rg ?r7
  case y7 =>
    intro w_ hS_
    go_simp
    try with_reducible rfl
  simp only [Act.put, List.getElem_toArray, List.getElem_cons_succ, List.getElem_cons_zero, List.setIfInBounds_toArray, List.set_cons_succ, List.set_cons_zero]
  refine wpAnyH_take (i := 7) (v := .agg (irow .u8 (bl (tk key)))) rfl (by kernel_rfl) (by kernel_rfl) (by kernel_rfl) (fun _ _ _ h => h) (Or.inl ⟨by rfl, ?y8⟩) rg ?r8
  case y8 =>
    intro w_ hS_
    simp only [List.getElem_toArray, List.getElem_cons_succ, List.getElem_cons_zero]
    exact run_load_part 23 _ (by rfl) g 32 (by rfl) 5 (irow .u8 (xpd (bl key) ps9 64)) (0, 0) (irow .u8 (bl (tk key))) _ hS_ xtk Tryd.underlying23 rfl (infok8 _ (by rw [bl_len, tk_len]))
  simp only [Act.put, List.getElem_toArray, List.getElem_cons_succ, List.getElem_cons_zero, List.setIfInBounds_toArray, List.set_cons_succ, List.set_cons_zero]
  refine wpAnyH_one (k := 8) (fuel := 1) (by kernel_rfl) rfl (by kernel_rfl) (fun K_ hK_ => ?_)
  refine wp_store_row 23 _ _ rfl (w.heap.size + 1) (irow .u8 (bl (ck key))) rfl rfl 23 _ R1 (infok8 _ (by rw [bl_len, ck_len])) (fit32 _ _ (zr_len 32) (by rw [bl_len, ck_len])) (irow_one _ _) (hK_ _ _ ((setRow_other w3 (w.heap.size + 1) g _ (by omega)).trans rg) ?_)
  replace R1 := setRow_heap w3 (w.heap.size + 1) _ (irow .u8 (bl (ck key))) _ _ R1
  replace R2 := (setRow_other w3 (w.heap.size + 1) (w.heap.size + 1 + 1) (irow .u8 (bl (ck key))) (by omega)).trans R2
  replace rg := (setRow_other w3 (w.heap.size + 1) g (irow .u8 (bl (ck key))) (by omega)).trans rg
  replace hw := below_setRow hw (show w.heap.size ≤ w.heap.size + 1 by omega) (irow .u8 (bl (ck key)))
  clear hK_
  generalize w3.setRow (w.heap.size + 1) (irow .u8 (bl (ck key))) = w4 at *
  refine wpAnyH_one (k := 9) (fuel := 0) (by kernel_rfl) rfl (by kernel_rfl) (fun K_ hK_ => ?_)
  refine wp_store_row 23 _ _ rfl (w.heap.size + 1 + 1) (irow .u8 (bl (tk key))) rfl rfl 23 _ R2 (infok8 _ (by rw [bl_len, tk_len])) (fit32 _ _ (zr_len 32) (by rw [bl_len, tk_len])) (irow_one _ _) (hK_ _ _ ((setRow_other w4 (w.heap.size + 1 + 1) g _ (by omega)).trans rg) ?_)
  replace R2 := setRow_heap w4 (w.heap.size + 1 + 1) _ (irow .u8 (bl (tk key))) _ _ R2
  replace R1 := (setRow_other w4 (w.heap.size + 1 + 1) (w.heap.size + 1) (irow .u8 (bl (tk key))) (by omega)).trans R1
  replace rg := (setRow_other w4 (w.heap.size + 1 + 1) g (irow .u8 (bl (tk key))) (by omega)).trans rg
  replace hw := below_setRow hw (show w.heap.size ≤ w.heap.size + 1 + 1 by omega) (irow .u8 (bl (tk key)))
  clear hK_
  generalize w4.setRow (w.heap.size + 1 + 1) (irow .u8 (bl (tk key))) = w5 at *
  refine wpAnyH_done (by kernel_rfl) ?_ _
  refine NoPanic.normal ?_
  go_wp2
  exact bodyPost_ret (results_cell2_row Tryd.results9 _ _ (w.heap.size + 1) (w.heap.size + 1 + 1) _ _ _ _ _ _ _ rfl rfl R1 R2 Tryd.underlying23 rfl (infok8 _ (by rw [bl_len, ck_len])) (infok8 _ (by rw [bl_len, tk_len]))) rfl ⟨rfl, hw⟩

end Go.Proofs.YtamieopjigjfiaaDoor
