import Derived.Test.YtbbdfbljhjijbaaProg
import Derived.WalkKit
import Derived.WalkSpells
import Derived.WalkLawsBesides
import Derived.Lib.QuietBelow
import Derived.BigQuiet
import Derived.Test.YtbbdfbljhjijbaaKit
import Derived.Test.YtbbdfbljhjijbaaHs
namespace Go.Proofs.Ytbbdfbljhjijbaa
open Go Go.RowKit Go.Sort
attribute [local go_sem] setCell_drewN alloc_drewN

theorem Bys.of_own {W : World} {b n : Nat} {v : Value} {l : List Int} (h : W.ownsRow b 5 1 v n (l.map (Value.int .u8))) (hl : l.length ≤ 9223372036854775807) (hz : ∀ z ∈ l, 0 ≤ z ∧ z < 256) : Bys W v l := by
  obtain ⟨h1, ⟨rfl, rfl⟩ | ⟨g, cap, cur, rfl, hb, hg, hn, hm, hs, ht⟩⟩ := h
  · have : l = [] := List.eq_nil_of_length_eq_zero (by simpa using h1)
    subst this
    exact ⟨none, 0, rfl, by decide, fun j hj => by simp at hj, by simp⟩
  · have hln : l.length = n := by simpa using h1
    refine ⟨_, cap, by rw [hln], hl, fun j hj => ⟨g, 0, rfl, lt_of_row hg, ?_⟩, hz⟩
    rw [Nat.zero_add, cell_of_row _ _ _ _ _ _ hg]
    have h2 := congrArg (fun q => q[j]?) ht
    simp only [Nat.mul_one] at h2
    rw [List.getElem?_take_of_lt (by omega), List.getElem?_map, List.getElem?_eq_getElem hj] at h2
    rw [← Array.getElem?_toList, h2, List.getD_eq_getElem?_getD, List.getElem?_eq_getElem hj]
    rfl
theorem below_grown {a b c : World} {g : Nat} (h : Below a.heap.size a b) (hg : b.grownBy c (some g)) (hge : a.heap.size ≤ g) : Below a.heap.size a c := h.grown hg h.size (fun k e => by injection e with e; omega)
set_option maxRecDepth 100000 in
set_option maxHeartbeats 4000000 in
theorem pads_any (n : Nat) (hn : n < 18446744073709551616) (w : World) : Calls Try.prog 3 #[.int .u64 (n : Int)] w fun e w' => e = .returned (.bool true) ∧ Below w.heap.size w w' := by
  have hpb := plen_bd n
  have hpl : (padL n).length = plen n := padP_len n 8
  have hz := padL_bd n
  have c1 := a_pad n hn
  have c2 := r_pad n hn
  go_enter Try.func3, Try.ntmps3
  go_wp2_with (fail)
  refine (c1 w).mono ?_
  rintro e_ w1 ⟨va, ga, rfl, rfl, hga, ra, hw⟩
  go_wp2_with (fail)
  refine (c1 w1).mono ?_
  rintro e_ w2 ⟨vb, gb, rfl, rfl, hgb, rb, hb⟩
  have la := lt_of_row ra
  replace ra := keep hb ra
  have hs1 := hw.size
  replace hw := Below.after hw hb
  clear hb
  go_wp2_with (fail)
  refine (c2 w2).mono ?_
  rintro e_ w3 ⟨vp, rfl, hp, hb⟩
  have lb := lt_of_row rb
  replace ra := keep hb ra
  replace rb := keep hb rb
  replace hw := Below.after hw hb
  clear hb c2
  have hla : (padL n).length ≤ 9223372036854775807 := by omega
  have ba : Bys w3 (.slice (some ⟨ga, 0, none⟩) (plen n) (plen n)) (padL n) := by rw [← hpl]; exact Bys.of_row ra hla hz _
  have bb : Bys w3 (.slice (some ⟨gb, 0, none⟩) (plen n) (plen n)) (padL n) := by rw [← hpl]; exact Bys.of_row rb hla hz _
  have bp := Bys.of_own hp hla hz
  go_wp2_with (fail)
  refine (same_any (padL n) w3 _ _ ba bp).mono ?_
  rintro e_ w4 ⟨rfl, hb⟩
  replace bb := bb.keep hb
  replace bp := bp.keep hb
  replace ra := keep hb ra
  replace rb := keep hb rb
  have hs4 := hb.size
  replace hp : w4.ownsRow w2.heap.size 5 1 vp (plen n) ((padL n).map (Value.int .u8)) := by
    obtain ⟨h1, h2 | ⟨g, cap, cur, rfl, hb2, hg, h3⟩⟩ := hp
    · exact ⟨h1, .inl h2⟩
    · exact ⟨h1, .inr ⟨g, cap, cur, rfl, hb2, keep hb hg, h3⟩⟩
  replace hw := Below.after hw hb
  clear hb ba
  go_wp2_with (fail)
  refine (same_any (padL n) w4 _ _ bb bp).mono ?_
  rintro e_ w5 ⟨rfl, hb⟩
  replace ra := keep hb ra
  replace rb := keep hb rb
  replace hp : w5.ownsRow w2.heap.size 5 1 vp (plen n) ((padL n).map (Value.int .u8)) := by
    obtain ⟨h1, h2 | ⟨g, cap, cur, rfl, hb2, hg, h3⟩⟩ := hp
    · exact ⟨h1, .inl h2⟩
    · exact ⟨h1, .inr ⟨g, cap, cur, rfl, hb2, keep hb hg, h3⟩⟩
  replace hw := Below.after hw hb
  clear hb bb bp
  go_wp2_with (fail)
  refine (full_any ga (plen n) (plen n) 7 _ w5 ra (by rw [irow_size, hpl]) (Nat.le_refl _) (by unfold maxLen; omega) (by omega)).mono ?_
  rintro e_ w6 ⟨rfl, hgr⟩
  replace rb : w6.heap[gb]? = _ := (hgr.block gb (lt_of_row rb) (by intro e; injection e with e; omega)).trans rb
  replace hp := hp.kept hgr (.inr (by
    intro e
    have := (hp.lt ga e).1
    omega))
  replace hw := below_grown hw hgr hga
  clear hgr ra
  have bb : Bys w6 (.slice (some ⟨gb, 0, none⟩) (plen n) (plen n)) (padL n) := by rw [← hpl]; exact Bys.of_row rb hla hz _
  have bp := Bys.of_own hp hla hz
  go_wp2_with (fail)
  refine (same_any (padL n) w6 _ _ bb bp).mono ?_
  rintro e_ w7 ⟨rfl, hb⟩
  replace bp := bp.keep hb
  replace hw := Below.after hw hb
  clear hb bb
  go_wp2_with (fail)
  refine (c1 w7).mono ?_
  rintro e_ w8 ⟨vc, gc, rfl, rfl, hgc, rc, hb⟩
  replace bp := bp.keep hb
  replace hw := Below.after hw hb
  clear hb
  have bc : Bys w8 (.slice (some ⟨gc, 0, none⟩) (plen n) (plen n)) (padL n) := by rw [← hpl]; exact Bys.of_row rc hla hz _
  go_wp2_with (fail)
  refine (same_any (padL n) w8 _ _ bc bp).mono ?_
  rintro e_ w9 ⟨rfl, hb⟩
  replace hw := Below.after hw hb
  go_wp2
  go_ret
  exact ⟨rfl, hw⟩

end Go.Proofs.Ytbbdfbljhjijbaa

