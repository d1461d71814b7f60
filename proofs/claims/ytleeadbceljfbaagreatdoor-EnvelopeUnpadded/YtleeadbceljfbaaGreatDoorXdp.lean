import Derived.Test.YtleeadbceljfbaaGreatDoorProg
import Derived.WalkKit
import Derived.WalkSpells
import Derived.WalkLawsBesides
import Derived.Lib.QuietBelow
import Derived.Laws.BitsAllLaws
import Derived.BigQuiet
import Derived.WalkMore
import Derived.Test.YtleeadbceljfbaaGreatDoorKa
import Derived.Test.YtleeadbceljfbaaGreatDoorQc0
import Derived.Test.YtleeadbceljfbaaGreatDoorWy
namespace Go.Proofs.YtleeadbceljfbaaGreatDoor
set_option maxRecDepth 100000
open Go Go.RowKit Go.Sort
attribute [local go_sem] setCell_drewN alloc_drewN

theorem own_cap {W : World} {b : Nat} {v : Value} {d : List B} (h : Own W b v d) : ∀ a l c, v = .slice a l c → l ≤ c := by
  intro a l c e
  obtain ⟨_, ⟨rfl, h0⟩ | ⟨g, cap, cur, rfl, _, _, hn, _⟩⟩ := h
  · cases e; omega
  · cases e; exact hn
theorem Fds.okm {W : World} {v : Value} {fs : List Fd} (h : Fds W v fs) : ∀ f ∈ fs, Fok f := by
  intro f hf
  obtain ⟨i, hi, rfl⟩ := List.getElem_of_mem hf
  have := h.ok hi
  rwa [gf, List.getD_eq_getElem?_getD, List.getElem?_eq_getElem hi] at this
theorem eer_len {fs : List Fd} (h : eer fs = 0) : fs.length ≤ 64 ∧ (ebs fs).length ≤ 4194304 := by
  unfold eer at h
  split at h
  · simp at h
  · split at h
    · rename_i q; exact absurd h q
    · split at h
      · simp at h
      · omega
theorem one_er {f : Fd} (h : hck f 0 = 0) (hf : fits f) (hl : (fvl f).length ≤ 100) (hh : fhd f < 18446744073709551616) : eer [f] = 0 := by
  have hk : fck f 0 = 0 := by rw [fck, if_neg (by rw [h]; simp), if_pos hf]
  have he : ech [f] 0 = 0 := by rw [ech, if_neg (by rw [hk]; simp)]; rfl
  have := en_ten hh
  rw [eer, if_neg (by simp), if_neg (by rw [he]; simp), if_neg (by rw [ebs_one, fby, List.length_append]; omega)]
/-- Encode, then Decode. -/
theorem there_back {fs : List Fd} (h : eer fs = 0) (hok : ∀ f ∈ fs, Fok f) (w : World) (v : Value) (b : Nat) (hO : Own w b v (ebs fs)) : Calls Tryz.prog 26 #[v] w fun e w' => ∃ u us, e = .returned (.tuple #[u, .int .i64 0, .int .i64 0]) ∧ Fts w' w.heap.size u us fs ∧ Below w.heap.size w w' := by
  have h1 := enc_dec h hok
  have c := a_decode (ebs fs) w v (hO.bysB (by have := (eer_len h).2; omega)) (own_cap hO)
  rw [h1.1, h1.2.1, h1.2.2] at c
  exact c
theorem oks_i {fs : List Fd} (hok : ∀ f ∈ fs, Fok f) : ∀ i, i < fs.length → Fok (gf fs i) := by
  intro i hi
  refine hok _ ?_
  rw [gf, List.getD_eq_getElem?_getD, List.getElem?_eq_getElem hi]
  exact List.getElem_mem hi
end Go.Proofs.YtleeadbceljfbaaGreatDoor

