import Derived.Test.YtdfpmgjholdknaaDoorUcb
import Derived.Test.YtdfpmgjholdknaaDoorUcd
import Derived.Test.YtdfpmgjholdknaaDoorUr
namespace Go.Proofs.YtdfpmgjholdknaaDoor
set_option maxRecDepth 100000
open Go Go.RowKit Go.Sort
attribute [local go_sem] setCell_drewN alloc_drewN
set_option maxRecDepth 100000 in
set_option maxHeartbeats 4000000 in
theorem l_made {W : World} {v : Value} {ts : List Slt} (h : Slo W v ts) (hbig : 0 ≤ slL ts 10000) (w : World) (hw : Below W.heap.size W w) : Calls Tryd.prog 6 #[v] w fun e w' => Below w.heap.size w w' ∧ ((vld ts = 0 ∧ ∃ gc gr u, e = .returned (.tuple #[.pointer (some ⟨gc, 0, none⟩), .pointer (some ⟨gr, 0, none⟩), .bool true]) ∧ Cdc w' gc ts ∧ w'.heap[gr]? = some (.cells #[u] 53 (0, 0)) ∧ Slo w' u ts) ∨ (vld ts ≠ 0 ∧ e = .returned (.tuple #[.pointer none, .pointer none, .bool true]))) := by
  have cH := l_handx h 10000 (by omega) hbig w hw
  have cR := fun V hV => r_Compile h hbig V hV
  have hk := fun V (hV : Below W.heap.size W V) => h.keep hV
  obtain ⟨ao, cap, rfl⟩ := h.form
  clear h
  go_enter Tryd.func6, Tryd.ntmps6
  go_wp2_with (fail)
  refine cH.mono ?_
  rintro e_ w1 ⟨v', rfl, hb1, hv'⟩
  clear cH
  have cC := a_Compile hv'.sl.slo w1 (Below.refl _ _)
  have cL := l_left hv'.sl _ (hk w1 (Below.after hw hb1))
  obtain ⟨rfl, hlt⟩ := hv'.form
  clear hk
  go_wp2_with (fail)
  refine cC.mono ?_
  rintro e_ w2 ⟨hb2, hres⟩
  clear cC
  rcases hres with ⟨h0, gc, rfl, hgc, hcd⟩ | ⟨h0, rfl⟩
  · go_wp2_with (fail)
    refine (cR w2 (Below.after (Below.after hw hb1) hb2)).mono ?_
    rintro e_ w3 ⟨hb3, hres⟩
    clear cR
    rcases hres with ⟨_, gr, u, rfl, hgr, hrg, hu⟩ | ⟨h1, rfl⟩
    rotate_left
    · exact absurd h0 h1
    go_wp2_with (fail)
    refine (cL w3 (Below.after hb2 hb3)).mono ?_
    rintro e_ w4 ⟨rfl, hb4⟩
    clear cL
    have h14 := Below.after (Below.after hb2 hb3) hb4
    have cW := l_wipe hv' w4 (fun b _ h2 => h14.block b h2)
    have B1 := hide hb1
    have B2 := hide hb2
    have B3 := hide hb3
    have B4 := hide hb4
    have B5 := hide h14
    clear hb1 hb2 hb3 hb4 h14
    go_wp2_with (fail)
    refine cW.mono ?_
    rintro e_ w5 ⟨⟨u0, rfl⟩, hO⟩
    clear cW
    have hb1 := B1.out
    have hb2 := B2.out
    have hb3 := B3.out
    have hb4 := B4.out
    have hs1 := hb1.size
    have hs2 := hb2.size
    have hs3 := hb3.size
    have hs4 := hb4.size
    have hB4 := Below.after hb1 B5.out
    have hB5 : Below w.heap.size w w5 := ⟨hO.os.trans hB4.os, hO.tape.trans hB4.tape, hO.output.trans hB4.output, by rw [hO.size]; exact hB4.size, fun q hq => (hO.block q (.inl hq)).trans (hB4.block q hq)⟩
    have hgs : gc < w2.heap.size := hcd.elim fun x q => (Array.getElem?_eq_some_iff.1 q).1
    have hgr3 : gr < w3.heap.size := (Array.getElem?_eq_some_iff.1 hrg).1
    have c5 : Cdc w5 gc ts := hcd.elim fun x q => ⟨x, (hO.block gc (.inr hgc)).trans ((hb4.block gc (by omega)).trans ((hb3.block gc hgs).trans q))⟩
    have g5 : w5.heap[gr]? = some (.cells #[u] 53 (0, 0)) := (hO.block gr (.inr (by omega))).trans ((hb4.block gr hgr3).trans hrg)
    have s5 : SlL w5 (fun _ => True) u ts := hu.keep (by rw [hO.size]; omega) fun q h1 h2 => ⟨(hO.block q (.inr (by omega))).trans (hb4.block q h1), trivial⟩
    have C1 := hide hB5
    have C2 := hide c5
    have C3 := hide g5
    have C4 := hide s5.slo
    clear hB5 c5 g5 s5 hO hb1 hb2 hb3 hb4 B1 B2 B3 B4 B5 hcd hrg hu hv'
    go_wp2_with (fail)
    go_ret3
    exact ⟨C1.out, .inl ⟨h0, gc, gr, u, rfl, C2.out, C3.out, C4.out⟩⟩
  · have cR2 := cR w2 (Below.after (Below.after hw hb1) hb2)
    have hA := hide h0
    generalize hx : vld ts = x at *
    replace hx := hide hx
    clear h0
    go_wp2_with (fail)
    refine cR2.mono ?_
    rintro e_ w3 ⟨hb3, hres⟩
    clear cR cR2
    rcases hres with ⟨h1, _⟩ | ⟨h1, rfl⟩
    · exact absurd h1 hA.out
    have hq := h1
    clear h1
    go_wp2_with (fail)
    refine (cL w3 (Below.after hb2 hb3)).mono ?_
    rintro e_ w4 ⟨rfl, hb4⟩
    clear cL
    have h14 := Below.after (Below.after hb2 hb3) hb4
    have cW := l_wipe hv' w4 (fun b _ h2 => h14.block b h2)
    have B1 := hide hb1
    have B2 := hide hb2
    have B3 := hide hb3
    have B4 := hide hb4
    have B5 := hide h14
    clear hb1 hb2 hb3 hb4 h14
    go_wp2_with (fail)
    refine cW.mono ?_
    rintro e_ w5 ⟨⟨u0, rfl⟩, hO⟩
    clear cW
    have hb1 := B1.out
    have hb2 := B2.out
    have hb3 := B3.out
    have hb4 := B4.out
    have hs1 := hb1.size
    have hs2 := hb2.size
    have hs3 := hb3.size
    have hs4 := hb4.size
    have hB4 := Below.after hb1 B5.out
    have hB5 : Below w.heap.size w w5 := ⟨hO.os.trans hB4.os, hO.tape.trans hB4.tape, hO.output.trans hB4.output, by rw [hO.size]; exact hB4.size, fun q hq => (hO.block q (.inl hq)).trans (hB4.block q hq)⟩
    have C1 := hide hB5
    have C2 := hide hq
    clear hB5 hO hb1 hb2 hb3 hb4 B1 B2 B3 B4 B5 hv' hq
    go_wp2_with (fail)
    go_ret3
    exact ⟨C1.out, .inr ⟨by rw [hx.out]; exact C2.out, rfl⟩⟩
set_option maxRecDepth 100000 in
set_option maxHeartbeats 4000000 in
theorem compiles_any {v : Value} {ts : List Slt} (W : World) (h : Slo W v ts) : Calls Tryd.prog 3 #[v] W fun e W' => e = .returned (.bool true) ∧ Below W.heap.size W W' := by
  have cB := l_bigSlots h
  by_cases hb : slL ts 10000 < 0
  · have d1 : decide (slL ts 10000 < 0) = true := by simpa using hb
    rw [d1] at cB
    have hv := vld_big hb
    have cC := fun w hw => a_Compile h w hw
    obtain ⟨ao, cap, rfl⟩ := h.form
    rw [hv] at cC
    clear d1 hb h
    go_enter Tryd.func3, Tryd.ntmps3
    go_wp2_with (fail)
    refine cB.mono ?_
    rintro e_ w1 ⟨rfl, hb1⟩
    go_wp2_with (fail)
    refine (cC w1 hb1).mono ?_
    rintro e_ w2 ⟨hb2, hres⟩
    rcases hres with ⟨h0, _⟩ | ⟨_, rfl⟩
    · omega
    · go_wp2_with (fail)
      go_ret
      exact ⟨rfl, Below.after hb1 hb2⟩
  · have d1 : decide (slL ts 10000 < 0) = false := by simpa using hb
    rw [d1] at cB
    have cM := fun w hw => l_made h (by omega) w hw
    have hgd : vld ts = 0 → gd ts := fun h0 => by
      refine lft_gd ts 1 256 (by omega) ?_
      unfold vld at h0
      split at h0
      · cases h0
      · omega
    have hps := prS_spL ts
    obtain ⟨ao, cap, rfl⟩ := h.form
    clear d1 hb h
    go_enter Tryd.func3, Tryd.ntmps3
    go_wp2_with (fail)
    refine cB.mono ?_
    rintro e_ w1 ⟨rfl, hb1⟩
    go_wp2_with (fail)
    refine (cM w1 hb1).mono ?_
    rintro e_ w2 ⟨hb2, hres⟩
    clear cB cM
    rcases hres with ⟨h0, gc, gr, u, rfl, hcd, hrg, hu⟩ | ⟨h0, rfl⟩
    · have cA := a_Range w2 hcd
      have cQ := fun V (hV : Below w2.heap.size w2 V) => r_Range (hgd h0) V (keep hV hrg) (hu.keep hV)
      rw [← hps] at cQ
      generalize (prS ts).1 = A at *
      generalize (prS ts).2 = Bm at *
      clear hps hgd h0 hcd hrg hu
      go_wp2_with (fail)
      refine cA.mono ?_
      rintro e_ w3 ⟨rfl, hb3⟩
      clear cA
      go_wp2_with (fail)
      refine (cQ w3 hb3).mono ?_
      rintro e_ w4 ⟨rfl, hb4⟩
      clear cQ
      go_wp2_with (fail)
      go_ret
      exact ⟨by simp, Below.after (Below.after (Below.after hb1 hb2) hb3) hb4⟩
    · clear hps hgd h0
      go_wp2_with (fail)
      go_ret
      exact ⟨rfl, Below.after hb1 hb2⟩
end Go.Proofs.YtdfpmgjholdknaaDoor
