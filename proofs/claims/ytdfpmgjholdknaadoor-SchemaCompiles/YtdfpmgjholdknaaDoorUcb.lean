import Derived.Test.YtdfpmgjholdknaaDoorUca
import Derived.Test.YtdfpmgjholdknaaDoorUf
namespace Go.Proofs.YtdfpmgjholdknaaDoor
set_option maxRecDepth 100000
open Go Go.RowKit Go.Sort
attribute [local go_sem] setCell_drewN alloc_drewN
/-- A codec's cells, but for its slots. -/
def Cdc (W : World) (g : Nat) (ts : List Slt) : Prop := ∃ x, W.heap[g]? = some (.cells #[x, .int .i64 ((prS ts).1 : Int), .int .i64 ((prS ts).2 : Int)] 45 (0, 0))
set_option maxRecDepth 100000 in
set_option maxHeartbeats 4000000 in
theorem a_Compile {W : World} {v : Value} {ts : List Slt} (h : Slo W v ts) (w : World) (hw : Below W.heap.size W w) : Calls Tryd.prog 5 #[v] w fun e w' => Below w.heap.size w w' ∧ ((vld ts = 0 ∧ ∃ g, e = .returned (.tuple #[.pointer (some ⟨g, 0, none⟩), .int .i64 0]) ∧ w.heap.size ≤ g ∧ Cdc w' g ts) ∨ (vld ts ≠ 0 ∧ e = .returned (.tuple #[.pointer none, .int .i64 (vld ts)]))) := by
  have cO := a_outline h w hw
  have hgd : vld ts = 0 → gd ts := fun h0 => by
    refine lft_gd ts 1 256 (by omega) ?_
    unfold vld at h0
    split at h0
    · cases h0
    · omega
  obtain ⟨ao, cap, rfl⟩ := h.form
  go_enter Tryd.func5, Tryd.ntmps5
  go_wp2_with (fail)
  refine cO.mono ?_
  rintro e_ w1 ⟨hb, hres⟩
  clear cO
  rcases hres with ⟨hv, m, rfl, hm⟩ | ⟨hv, rfl⟩
  · have hg := hgd hv
    have cS := a_mspan hm.msg hg w1 (Below.refl _ _)
    have cC := fun V hV => a_compile hm hg V hV
    have hle := spL_le ts 0 0 (by omega) (by omega)
    rw [← prS_spL] at hle
    obtain ⟨hl1, hl2⟩ := hle
    have hcd : ∀ (V : World) (g : Nat) (x : Value), V.heap[g]? = some (.cells #[x, .int .i64 ((prS ts).1 : Int), .int .i64 ((prS ts).2 : Int)] 45 (0, 0)) → Cdc V g ts := fun V g x hx => ⟨x, hx⟩
    generalize (prS ts).1 = A at *
    generalize (prS ts).2 = Bm at *
    have A1 := hide hcd
    have A2 := hide hv
    obtain ⟨mo, mc, rfl⟩ := hm.form
    clear hcd hv hgd hg hm
    go_wp2_with (fail)
    refine cS.mono ?_
    rintro e_ w2 ⟨rfl, hb2⟩
    clear cS
    go_wp2_with (fail)
    refine (cC w2 hb2).mono ?_
    rintro e_ w3 ⟨x, rfl, ⟨xo, xn, xc, rfl⟩, hb3, _⟩
    clear cC
    have hB := Below.after (Below.after hb hb2) hb3
    have q1 := A1.out (w3.alloc (.cells #[.slice xo xn xc, .int .i64 (A : Int), .int .i64 (Bm : Int)] 45)) w3.heap.size _ (hp1_0 w3 _)
    have hba : Below w3.heap.size w3 (w3.alloc (.cells #[.slice xo xn xc, .int .i64 (A : Int), .int .i64 (Bm : Int)] 45)) := (Below.refl _ _).alloc (Nat.le_refl _) _
    have A3 := hide q1
    have A4 := hide (Below.after hB hba)
    have A5 := hide hB
    clear q1 hba hB hb hb2 hb3 A1
    go_wp2_with (fail)
    go_ret2
    exact ⟨A4.out, .inl ⟨A2.out, _, rfl, A5.out.size, A3.out⟩⟩
  · have hv' : (vld ts == 0) = false := beq_eq_false_iff_ne.2 hv
    generalize hx : vld ts = x at *
    replace hx := hide hx
    go_wp2_with (fail)
    go_ret2
    exact ⟨hb, .inr ⟨by rw [hx.out]; exact hv, by rw [hx.out]; rfl⟩⟩
set_option maxRecDepth 100000 in
theorem a_Range {ts : List Slt} {g : Nat} (w : World) (h : Cdc w g ts) : Calls Tryd.prog 7 #[.pointer (some ⟨g, 0, none⟩)] w fun e w' => e = .returned (.tuple #[.int .i64 ((prS ts).1 : Int), .int .i64 ((prS ts).2 : Int)]) ∧ Below w.heap.size w w' := by
  obtain ⟨x, h⟩ := h
  have c1 : w.cell? ⟨g, 1, none⟩ = some (.int .i64 ((prS ts).1 : Int)) := cell_of_row _ _ _ _ _ _ h
  have c2 : w.cell? ⟨g, 2, none⟩ = some (.int .i64 ((prS ts).2 : Int)) := cell_of_row _ _ _ _ _ _ h
  have k1 : ∀ p : Regrown, (grow (redrawn w p.d) p.os).cell? ⟨g, 1, none⟩ = _ := fun p => cell_regrown c1 p.d p.os
  have k2 : ∀ p : Regrown, (grow (redrawn w p.d) p.os).cell? ⟨g, 2, none⟩ = _ := fun p => cell_regrown c2 p.d p.os
  go_enter Tryd.func7, Tryd.ntmps7
  go_wp2_with (fail)
  refine wp_region_quiet_below (by kernel_rfl) (by kernel_rfl) ?_
  go_big_quiet_step (fail)
  go_big_quiet_step (fail)
  go_big_quiet_step (fail)
  go_big_quiet_step (fail)
  go_big_quiet_step (fail)
  go_big_quiet_step (fail)
  go_big_quiet_step (fail)
  go_big_quiet_step (fail)
  go_big_quiet_step (fail)
  go_big_quiet_step (fail)
  refine wpQuiet_nil ?_
  rintro _ ⟨p, rfl⟩
  have hb2 := below_regrown w p.d p.os
  generalize grow (redrawn w p.d) p.os = w1 at *
  clear k1 k2
  go_wp2_with (fail)
  go_ret2
  exact ⟨rfl, hb2⟩
end Go.Proofs.YtdfpmgjholdknaaDoor
