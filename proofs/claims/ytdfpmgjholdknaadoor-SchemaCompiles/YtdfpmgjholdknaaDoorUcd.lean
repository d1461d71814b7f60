import Derived.Test.YtdfpmgjholdknaaDoorUcc
import Derived.Test.YtdfpmgjholdknaaDoorUw
import Derived.Test.YtdfpmgjholdknaaDoorUf
namespace Go.Proofs.YtdfpmgjholdknaaDoor
set_option maxRecDepth 100000
open Go Go.RowKit Go.Sort
attribute [local go_sem] setCell_drewN alloc_drewN
set_option maxRecDepth 100000 in
set_option maxHeartbeats 4000000 in
theorem r_Compile {W : World} {v : Value} {ts : List Slt} (h : Slo W v ts) (hbig : 0 ≤ slL ts 10000) (w : World) (hw : Below W.heap.size W w) : Calls Tryd.prog 14 #[v] w fun e w' => Below w.heap.size w w' ∧ ((vld ts = 0 ∧ ∃ g u, e = .returned (.tuple #[.pointer (some ⟨g, 0, none⟩), .int .i64 0]) ∧ w.heap.size ≤ g ∧ w'.heap[g]? = some (.cells #[u] 53 (0, 0)) ∧ SlL w' (fun b => w.heap.size ≤ b) u ts) ∨ (vld ts ≠ 0 ∧ e = .returned (.tuple #[.pointer none, .int .i64 (vld ts)]))) := by
  have cV := r_valid h w hw
  have cT := fun V hV => r_twin h 10000 (by omega) hbig V hV
  obtain ⟨ao, cap, rfl⟩ := h.form
  generalize hx : vld ts = x at *
  replace hx := hide hx
  by_cases h0 : x = 0
  · subst h0
    go_enter Tryd.func14, Tryd.ntmps14
    go_wp2_with (fail)
    refine cV.mono ?_
    rintro e_ w1 ⟨rfl, hb1⟩
    clear cV
    go_wp2_with (fail)
    refine (cT w1 (Below.after hw hb1)).mono ?_
    rintro e_ w2 ⟨u, rfl, hb2, hu⟩
    clear cT
    obtain ⟨ua, uc, rfl⟩ := hu.form
    have r1 := hp1_0 w2 (.cells #[.slice ua ts.length uc] 53)
    have hba : Below w2.heap.size w2 (w2.alloc (.cells #[.slice ua ts.length uc] 53)) := (Below.refl _ _).alloc (Nat.le_refl _) _
    have hs1 := hb1.size
    have hs2 := hb2.size
    have hu2 : SlL (w2.alloc (.cells #[.slice ua ts.length uc] 53)) (fun b => w.heap.size ≤ b) (.slice ua ts.length uc) ts := hu.keep hba.size fun q h1 h2 => ⟨hba.block q h1, by omega⟩
    have A1 := hide r1
    have A2 := hide (Below.after (Below.after hb1 hb2) hba)
    have A3 := hide hu2
    clear r1 hba hu hu2 hb1 hb2
    go_wp2_with (fail)
    go_ret2
    exact ⟨A2.out, .inl ⟨trivial, _, _, rfl, by omega, A1.out, A3.out⟩⟩
  · have hx' : (x == 0) = false := beq_eq_false_iff_ne.2 h0
    go_enter Tryd.func14, Tryd.ntmps14
    go_wp2_with (fail)
    refine cV.mono ?_
    rintro e_ w1 ⟨rfl, hb1⟩
    clear cV cT
    go_wp2_with (fail)
    go_ret2
    exact ⟨hb1, .inr ⟨h0, rfl⟩⟩
theorem r_Range {ts : List Slt} {g : Nat} {u : Value} (hg : gd ts) (w : World) (h : w.heap[g]? = some (.cells #[u] 53 (0, 0))) (hu : Slo w u ts) : Calls Tryd.prog 8 #[.pointer (some ⟨g, 0, none⟩)] w fun e w' => e = .returned (.tuple #[.int .i64 ((spL ts 0 0).1 : Int), .int .i64 ((spL ts 0 0).2 : Int)]) ∧ Below w.heap.size w w' := by
  have c0 : w.cell? ⟨g, 0, none⟩ = some u := cell_of_row _ _ _ _ _ _ h
  have cS := r_span hu hg w (Below.refl _ _)
  obtain ⟨ao, cap, rfl⟩ := hu.form
  generalize (spL ts 0 0).1 = A at *
  generalize (spL ts 0 0).2 = Bm at *
  clear h hu hg
  go_enter Tryd.func8, Tryd.ntmps8
  go_wp2_with (fail)
  refine cS.mono ?_
  rintro e_ w1 ⟨rfl, hb⟩
  go_wp2_with (fail)
  go_ret2
  exact ⟨rfl, hb⟩
/-- Nothing outside those blocks has turned. -/
structure Out (lo hi : Nat) (w w' : World) : Prop where
  os : w'.os = w.os
  tape : w'.tape = w.tape
  output : w'.output = w.output
  size : w'.heap.size = w.heap.size
  block : ∀ k, (k < lo ∨ hi ≤ k) → w'.heap[k]? = w.heap[k]?
theorem Out.refl (lo hi : Nat) (w : World) : Out lo hi w w := ⟨rfl, rfl, rfl, rfl, fun _ _ => rfl⟩
theorem Out.trans {lo hi lo' hi' : Nat} {a b c : World} (h : Out lo hi a b) (k : Out lo' hi' b c) (h1 : lo ≤ lo') (h2 : hi' ≤ hi) : Out lo hi a c :=
  ⟨k.os.trans h.os, k.tape.trans h.tape, k.output.trans h.output, k.size.trans h.size, fun i hi => (k.block i (by omega)).trans (h.block i hi)⟩
theorem Out.set {lo hi o : Nat} {a b : World} {v : Value} (h : Out lo hi a b) (h1 : lo < hi) : Out lo hi a (b.setCell ⟨lo, o, none⟩ v) :=
  ⟨h.os, h.tape, h.output, by rw [← h.size]; simp, fun i hi => (heap_setCell_other b _ i v (by show i ≠ lo; omega)).trans (h.block i hi)⟩
set_option maxRecDepth 100000 in
set_option maxHeartbeats 16000000 in
theorem l_wipe {W : World} {lo hi : Nat} {v : Value} {ts : List Slt} (h : HSx W lo hi v ts) : ∀ (w : World), (∀ b, lo ≤ b → b < hi → w.heap[b]? = W.heap[b]?) → Calls Tryd.prog 16 #[v] w fun e w' => (∃ u, e = .returned u) ∧ Out lo hi w w' := by
  induction h with
  | mk lo hi ts us p hl hG hh hp0 hp hcs h hm hs ih =>
    intro w hw
    obtain ⟨cs0, T, hc0, hz0⟩ := hcs
    have hv0 : ∀ j c, j < ts.length → c < 5 → cs0[j * 5 + c]? = (srow (gs ts j) (gvs us j))[c]? := fun j c hj hc => by
      have hx : ∃ x, (srow (gs ts j) (gvs us j))[c]? = some x := ⟨_, List.getElem?_eq_getElem (by show c < 5; exact hc)⟩
      obtain ⟨x, hx⟩ := hx
      have := (h j hj).1 c x hx
      rw [cell_of_row _ _ _ _ _ _ hc0] at this
      rw [hx, this]
    have hpm : ∀ i j, i ≤ j → j < ts.length → p i ≤ p j := fun i j hij hj => by
      induction j with
      | zero => have : i = 0 := by omega
                rw [this]; exact Nat.le_refl _
      | succ j ihj =>
        rcases Nat.lt_or_ge i (j + 1) with q | q
        · exact Nat.le_trans (ihj (by omega) (by omega)) (hp j (by omega)).2.1
        · have : i = j + 1 := by omega
          rw [this]; exact Nat.le_refl _
    have hc1 := (hw lo (Nat.le_refl _) hp0).trans hc0
    go_enter Tryd.func16, Tryd.ntmps16
    go_wp2_with (fail)
    go_loopw [2] (fun i wr => ∃ (k : Nat) (cs : Array Value), k ≤ ts.length ∧ i = .int .i64 k ∧ Out lo hi w wr ∧ wr.heap[lo]? = some (.cells cs T (0, 0)) ∧ cs.size = (ts.length + 3) * 5 ∧ (∀ j c, k ≤ j → j < ts.length → c < 5 → cs[j * 5 + c]? = (srow (gs ts j) (gvs us j))[c]?) ∧ ∀ j b, k ≤ j → j < ts.length → p j ≤ b → b < p (j + 1) → wr.heap[b]? = W.heap[b]?) (fun i _ => ts.length - (intOf i).toNat)
    case atStart => exact ⟨0, cs0, by omega, rfl, Out.refl _ _ _, hc1, hz0, fun j c _ hj hc => hv0 j c hj hc, fun j b _ hj h1 h2 => hw b (by have := hp j hj; omega) (by have := hp j hj; omega)⟩
    case round =>
      obtain ⟨k, cs, hk, rfl, hO, hc, hz, hv, hN⟩ := hrel
      by_cases hlt : k < ts.length
      · have hd : decide ((k : Int) < (ts.length : Int)) = true := by simp; omega
        have hk1 : 0 ≤ (k : Int) ∧ (k : Int) < (ts.length : Int) := by omega
        have hpk := hp k hlt
        have y4 : wr.cell? ⟨lo, k * 5 + 4, none⟩ = some (gvs us k) := by
          rw [cell_of_row _ _ _ _ _ _ hc, hv k 4 (Nat.le_refl _) hlt (by omega)]; rfl
        have cW := ih k hlt wr (fun b h1 h2 => hN k b (Nat.le_refl _) hlt h1 h2)
        have hfm := (hs k hlt).form.1
        generalize gvs us k = u at *
        subst hfm
        have A1 := hide hO
        have A2 := hide hc
        have A3 := hide hv
        have A4 := hide hN
        clear h hs ih hm hO hc hv hN hv0 hc0 hc1 hw
        go_wp2_with (fail)
        refine cW.mono ?_
        rintro e_ w2 ⟨⟨u0, rfl⟩, hO2⟩
        clear cW y4
        have r2 := (hO2.block lo (by omega)).trans A2.out
        obtain ⟨z0, n0⟩ : ∃ z, w2.cell? ⟨lo, k * 5, none⟩ = some z := by
          rw [cell_of_row _ _ _ _ _ _ r2]
          exact ⟨_, Array.getElem?_eq_getElem (by omega)⟩
        have f0 : w2.frozen? ⟨lo, k * 5, none⟩ = false := by simp [World.frozen?, r2]
        obtain ⟨z1, n1⟩ : ∃ z, w2.cell? ⟨lo, k * 5 + 1, none⟩ = some z := by
          rw [cell_of_row _ _ _ _ _ _ r2]
          exact ⟨_, Array.getElem?_eq_getElem (by omega)⟩
        have f1 : w2.frozen? ⟨lo, k * 5 + 1, none⟩ = false := by simp [World.frozen?, r2]
        obtain ⟨z2, n2⟩ : ∃ z, w2.cell? ⟨lo, k * 5 + 2, none⟩ = some z := by
          rw [cell_of_row _ _ _ _ _ _ r2]
          exact ⟨_, Array.getElem?_eq_getElem (by omega)⟩
        have f2 : w2.frozen? ⟨lo, k * 5 + 2, none⟩ = false := by simp [World.frozen?, r2]
        obtain ⟨z3, n3⟩ : ∃ z, w2.cell? ⟨lo, k * 5 + 3, none⟩ = some z := by
          rw [cell_of_row _ _ _ _ _ _ r2]
          exact ⟨_, Array.getElem?_eq_getElem (by omega)⟩
        have f3 : w2.frozen? ⟨lo, k * 5 + 3, none⟩ = false := by simp [World.frozen?, r2]
        obtain ⟨z4, n4⟩ : ∃ z, w2.cell? ⟨lo, k * 5 + 4, none⟩ = some z := by
          rw [cell_of_row _ _ _ _ _ _ r2]
          exact ⟨_, Array.getElem?_eq_getElem (by omega)⟩
        have f4 : w2.frozen? ⟨lo, k * 5 + 4, none⟩ = false := by simp [World.frozen?, r2]
        have hO3 := A1.out.trans hO2 (by omega) (by omega)
        have hO4 : Out lo hi w (((((w2.setCell ⟨lo, k * 5, none⟩ (.int .i64 1)).setCell ⟨lo, k * 5 + 1, none⟩ (.int .i64 1)).setCell ⟨lo, k * 5 + 2, none⟩ (.int .u64 0)).setCell ⟨lo, k * 5 + 3, none⟩ (.int .u64 3)).setCell ⟨lo, k * 5 + 4, none⟩ (.slice none 0 0)) := ((((hO3.set hp0).set hp0).set hp0).set hp0).set hp0
        have r3 := (heap_setCell_same _ lo (k * 5 + 4) _ _ (.slice none 0 0) (heap_setCell_same _ lo (k * 5 + 3) _ _ (.int .u64 3) (heap_setCell_same _ lo (k * 5 + 2) _ _ (.int .u64 0) (heap_setCell_same _ lo (k * 5 + 1) _ _ (.int .i64 1) (heap_setCell_same _ lo (k * 5) _ _ (.int .i64 1) r2)))))
        have hel : ∀ q, q ≠ lo → (((((w2.setCell ⟨lo, k * 5, none⟩ (.int .i64 1)).setCell ⟨lo, k * 5 + 1, none⟩ (.int .i64 1)).setCell ⟨lo, k * 5 + 2, none⟩ (.int .u64 0)).setCell ⟨lo, k * 5 + 3, none⟩ (.int .u64 3)).setCell ⟨lo, k * 5 + 4, none⟩ (.slice none 0 0)).heap[q]? = w2.heap[q]? := fun q hq => ((((heap_setCell_other _ _ q _ hq).trans (heap_setCell_other _ _ q _ hq)).trans (heap_setCell_other _ _ q _ hq)).trans (heap_setCell_other _ _ q _ hq)).trans (heap_setCell_other _ _ q _ hq)
        have B1 := hide hO4
        have B2 := hide r3
        have B3 := hide hel
        have B4 := hide hO2
        clear hO4 r3 hel r2 hO2 hO3 A1 A2
        go_wp2_with (fail)
        generalize (((((w2.setCell ⟨lo, k * 5, none⟩ (.int .i64 1)).setCell ⟨lo, k * 5 + 1, none⟩ (.int .i64 1)).setCell ⟨lo, k * 5 + 2, none⟩ (.int .u64 0)).setCell ⟨lo, k * 5 + 3, none⟩ (.int .u64 3)).setCell ⟨lo, k * 5 + 4, none⟩ (.slice none 0 0)) = w3 at *
        refine ⟨⟨k + 1, _, by omega, by go_num, B1.out, B2.out, by simp [hz], fun j c h1 h2 h3 => ?_, fun j b h1 h2 h3 h4 => ?_⟩, ?_⟩
        · simp only [Array.getElem?_setIfInBounds]
          rw [if_neg (by omega), if_neg (by omega), if_neg (by omega), if_neg (by omega), if_neg (by omega)]
          exact A3.out j c (by omega) h2 h3
        · have hj := hp j h2
          have hmono : p (k + 1) ≤ p j := hpm (k + 1) j (by omega) (by omega)
          rw [B3.out b (by omega), B4.out.block b (by omega)]
          exact A4.out j b (by omega) h2 h3 h4
        · simp [intOf]; omega
      · have hd : decide ((k : Int) < (ts.length : Int)) = false := by simp; omega
        clear h hs ih hm
        go_wp2_with (fail)
        go_end0
        exact ⟨⟨_, rfl⟩, hO⟩
end Go.Proofs.YtdfpmgjholdknaaDoor
