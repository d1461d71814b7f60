import Derived.Test.YtnbkdlfkacbfjaaProg
import Derived.WalkKit
import Derived.WalkSpells
import Derived.WalkLawsBesides
import Derived.Lib.QuietBelow
import Derived.Laws.BitsAllLaws
import Derived.BigQuiet
import Derived.WalkMore
import Derived.Test.YtnbkdlfkacbfjaaKit
import Derived.Test.YtnbkdlfkacbfjaaWd
namespace Go.Proofs.Ytnbkdlfkacbfjaa
open Go Go.RowKit Go.Sort
attribute [local go_sem] setCell_drewN alloc_drewN

theorem made_irow (n : Nat) : madeCells #[.int .u8 0] n = irow .u8 (zr n) := by
  apply Array.ext'
  simp only [madeCells, irow, zr, Array.toList_map, Array.toList_range, List.map_replicate]
  apply List.ext_getElem
  · simp
  · intro i h1 h2
    simp [Nat.mod_one]
theorem make_lc (n c : Nat) (hn : n ≤ c) (hc : c ≤ 281474976710656) (w : World) : (Instr.makeSlice 22 (.int .i64 (n : Int)) (.int .i64 (c : Int))).run Try.prog w = .ok (.slice (some ⟨w.heap.size, 0, none⟩) n c) (w.alloc (.cells (irow .u8 (zr c)) 5)) := by
  obtain ⟨i0, hi, hz0, hz1, hz2⟩ := info8
  have h := run_make (P := Try.prog) w 22 5 i0 (.int .u8 0) Try.underlying22 hi hz0 .i64 .i64 (n : Int) (c : Int) (by omega) (by omega) (by rw [hz2]; omega) (by omega)
  rw [hz1, Nat.mul_one, Int.toNat_natCast, Int.toNat_natCast] at h
  rw [h, ← made_irow]
  rfl
theorem setRow_self {W : World} {g : Nat} {cs : Array Value} {t : TypeId} {fr : Nat × Nat} (hg : W.heap[g]? = some (.cells cs t fr)) : W.setRow g cs = W := by
  have hlt := lt_of_row hg
  have e : (W.setRow g cs).heap = W.heap := by
    apply Array.ext_getElem?
    intro i
    by_cases h : i = g
    · subst h; rw [setRow_heap W i _ cs _ _ hg, hg]
    · exact setRow_other W g i cs h
  show { W with heap := (W.setRow g cs).heap } = W
  rw [e]
theorem copy_irow {W : World} {g o dLen dCap b off m cap : Nat} {l c : List Int} {t : TypeId} (hg : W.heap[g]? = some (.cells (irow .u8 l) t (0, 0))) (hc : ∀ j, j < c.length → W.cell? ⟨b, off + j, none⟩ = some (.int .u8 (c.getD j 0))) (hn : c.length = Nat.min m dLen) (hfit : o + c.length ≤ l.length) :
    (Builtin.copy_ #[22, 22] 3 #[.slice (some ⟨g, o, none⟩) dLen dCap, .slice (some ⟨b, off, none⟩) m cap]).run Try.prog W = .ok (goInt c.length) (W.setRow g (irow .u8 (l.take o ++ c ++ l.drop (o + c.length)))) := by
  have hsrc : ∀ j u, (c.map (Value.int .u8))[j]? = some u → W.cell? ((⟨b, off, none⟩ : Addr).add j) = some u := by
    intro j u hu
    have hj : j < c.length := by have := (List.getElem?_eq_some_iff.1 hu).1; simpa using this
    have : u = .int .u8 (c.getD j 0) := by
      simp only [List.getElem?_map, List.getElem?_eq_getElem hj, Option.map_some, Option.some.injEq] at hu
      rw [← hu, List.getD_eq_getElem?_getD, List.getElem?_eq_getElem hj]; rfl
    rw [this, addr_add]
    exact hc j hj
  have hrun := run_copy_row (P := Try.prog) W 22 22 3 5 g o dLen dCap ⟨b, off, none⟩ m cap (irow .u8 l) t (c.map (Value.int .u8)) Try.underlying22 (by kernel_rfl) hg (by rw [List.length_map]; exact hn) hsrc (by rw [irow_size, List.length_map]; exact hfit) (ints_one .u8 c)
  rw [List.length_map] at hrun
  rw [hrun]
  congr 2
  apply Array.ext'
  simp [irow, List.map_take, List.map_drop]
theorem copy_bys {W : World} {g o dLen dCap : Nat} {v : Value} {l c : List Int} {t : TypeId} (hg : W.heap[g]? = some (.cells (irow .u8 l) t (0, 0))) (hB : Bys W v c) (hd : c.length ≤ dLen) (hf : o + c.length ≤ l.length) :
    (Builtin.copy_ #[22, 22] 3 #[.slice (some ⟨g, o, none⟩) dLen dCap, v]).run Try.prog W = .ok (goInt c.length) (W.setRow g (irow .u8 (l.take o ++ c ++ l.drop (o + c.length)))) := by
  obtain ⟨ao, cap, rfl, _, hc, _⟩ := hB
  rcases Nat.eq_zero_or_pos c.length with h0 | h0
  · have hc0 : c = [] := List.eq_nil_of_length_eq_zero h0
    subst hc0
    rw [run_copy_none W 22 22 3 5 _ _ _ _ _ _ Try.underlying22 (by kernel_rfl) (by simp)]
    rw [List.append_nil, List.length_nil, Nat.add_zero, List.take_append_drop, setRow_self hg]
    rfl
  · obtain ⟨b, off, rfl, _⟩ := hc 0 h0
    refine copy_irow hg (fun j hj => ?_) (Nat.min_eq_left hd).symm hf
    obtain ⟨b', off', e, _, h⟩ := hc j hj
    cases e
    exact h
theorem zr_take (a b : Nat) (h : a ≤ b) : (zr b).take a = zr a := by simp [zr, List.take_replicate, Nat.min_eq_left h]
theorem zr_drop (a b : Nat) : (zr b).drop a = zr (b - a) := by simp [zr]
theorem row_own {W : World} {b g cap : Nat} {d : List B} {T : Array Value} (hb : b ≤ g) (hg : W.heap[g]? = some (.cells ((irow .u8 (bl (d))) ++ T) 5 (0, 0))) (hn : d.length ≤ cap) (hm : cap ≤ maxLen) (hs : ((irow .u8 (bl (d))) ++ T).size = cap) : Own W b (.slice (some ⟨g, 0, none⟩) d.length cap) d := by
  refine ⟨by simp [bl_len], .inr ⟨g, cap, _, rfl, hb, hg, hn, hm, by rw [hs, Nat.mul_one], ?_⟩⟩
  rw [Nat.mul_one, Array.toList_append, List.take_append_of_le_length (by simp [irow, bl_len]), List.take_of_length_le (by simp [irow, bl_len])]
  simp [irow]
theorem zr_split (n m : Nat) : (zr (n + m)).drop n = zr m := by simp [zr]
theorem own_of_row {W : World} {g b : Nat} {d : List B} {T : List Int} (hg : W.heap[g]? = some (.cells (irow .u8 (bl d ++ T)) 5 (0, 0))) (hb : b ≤ g) (hm : d.length + T.length ≤ maxLen) : Own W b (.slice (some ⟨g, 0, none⟩) d.length (d.length + T.length)) d := by
  refine ⟨by simp [bl_len], .inr ⟨g, d.length + T.length, _, rfl, hb, hg, by omega, hm, by rw [irow_size, List.length_append, bl_len]; omega, ?_⟩⟩
  rw [irow, List.toList_toArray, List.map_append, List.take_left']
  simp [bl_len]
theorem bys_nil (W : World) : BysB W (.slice none 0 0) [] := ⟨⟨none, 0, rfl, by simp [bl], fun j hj => by simp [bl] at hj, bl_bnd _⟩, by simp, fun _ _ _ h _ => by cases h; rfl⟩
end Go.Proofs.Ytnbkdlfkacbfjaa
