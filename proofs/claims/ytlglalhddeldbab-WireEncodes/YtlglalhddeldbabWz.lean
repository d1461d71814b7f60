import Derived.Test.YtlglalhddeldbabProg
import Derived.WalkKit
import Derived.WalkSpells
import Derived.WalkLawsBesides
import Derived.Lib.QuietBelow
import Derived.Laws.BitsAllLaws
import Derived.BigQuiet
import Derived.WalkMore
import Derived.Test.YtlglalhddeldbabKit
import Derived.Test.YtlglalhddeldbabWx
namespace Go.Proofs.Ytlglalhddeldbab
open Go Go.RowKit Go.Sort
attribute [local go_sem] setCell_drewN alloc_drewN

theorem grown_none {a b c : World} {row : Option Nat} (h : a.grownBy b none) (h2 : b.grownBy c row) (hr : ∀ k, row = some k → a.heap.size ≤ k) : a.grownBy c none := by
  refine ⟨h2.os.trans h.os, h2.tape.trans h.tape, h2.output.trans h.output, Nat.le_trans h.size h2.size, fun k hk hn => ?_⟩
  have h3 := h.size
  refine (h2.block k (by omega) (fun e => ?_)).trans (h.block k hk hn)
  have := hr k e.symm
  omega
set_option maxRecDepth 100000 in
set_option maxHeartbeats 2000000 in
theorem full_nil (x : Int) (w : World) : Calls Try.prog 14 #[.slice none 0 0, .int .u8 x] w fun e w' => e = .returned (.tuple #[]) ∧ w.grownBy w' none := by
  obtain ⟨i0, hi, hz0, hz1, hz2⟩ := info8
  go_enter Try.func14, Try.ntmps14
  go_wp2_with (fail)
  refine wp_loop_rounds 1 ?_
  rw [rounds_succ]
  go_wp2_with (fail)
  go_loopw [0, 5] (fun v i wr => ∃ (j : Nat) (ao : Option Addr) (ac : Nat) (xs : List Value), j ≤ 90 ∧ i = .int .i64 j ∧ v = .slice ao j ac ∧ wr.ownsRow w.heap.size 5 1 (.slice ao j ac) j xs ∧ w.grownBy wr none) (fun _ i _ => 90 - (intOf i).toNat)
  case atStart => exact ⟨0, none, 0, [], by omega, rfl, rfl, ⟨rfl, .inl ⟨rfl, rfl⟩⟩, World.grownBy.refl _ _⟩
  case round =>
    obtain ⟨j, ao, ac, xs, hj, rfl, rfl, hown, hw⟩ := hrel
    have hws := hw.size
    by_cases hlt2 : j < 90
    · have hd : decide ((j : Int) < 90) = true := by simp; omega
      have hown_ := hown.alloc (.cells #[.int .u8 x] 5)
      go_wp2_with (at_builtin; suffices h9 : True ∧ _ from h9.2)
      refine ⟨trivial, ?_⟩
      refine wpList_plain rfl fun _ hK => wp_append_nx (.tmp 20) (.tmp 22) 24 rfl w.heap.size 5 i0 (.int .u8 0) 1 1 Try.underlying24 hi hz0 hz1 hz2 rfl (by decide) _ j xs rfl hown_ ⟨wr.heap.size, 0, none⟩ 1 1 [.int .u8 x] rfl rfl (new_cell wr x) (by simp [Value.oneCell']) (by unfold maxLen; omega) (by omega) (by rw [size_alloc1]; omega) (fun v2 w2 hown2 hgrow _ => hK _ _ ?_)
      have hg2 := grown_none (grown_none hw (World.grownBy_alloc wr (.cells #[.int .u8 x] 5) none) (fun k e => by cases e)) hgrow (fun k e => (own_high_row hown k e).1)
      obtain ⟨ao2, ac2, rfl⟩ := slen_own hown2
      clear hown hown_ hgrow hw
      go_wp2_with (fail)
      refine ⟨⟨j + 1, ao2, ac2, _, by omega, by go_num, rfl, hown2, hg2⟩, ?_⟩
      simp [intOf]; omega
    · obtain rfl : j = 90 := by omega
      have hd : decide ((90 : Int) < 90) = false := by decide
      go_wp2_with (fail)
      go_end0
      exact ⟨rfl, hw⟩
/-- Whatever list of one's own is written full: no block but its own turns. -/
theorem l_full2 (w : World) (b : Nat) (v : Value) (d : List B) (x : Int) (hO : Own w b v d) (hl : d.length + 90 ≤ 140737488355328) : Calls Try.prog 14 #[v, .int .u8 x] w fun e w' => e = .returned (.tuple #[]) ∧ w.grownBy w' v.ownBlock := by
  obtain ⟨h1, ⟨rfl, h0⟩ | ⟨g, cap, cur, rfl, hbg, hg, hn, hm, hs, _⟩⟩ := hO
  · exact full_nil x w
  · rw [Nat.mul_one] at hs
    exact full_any g d.length cap x cur w hg hs hn hm hl
theorem Own.grown3 {W V : World} {b : Nat} {v u : Value} {d : List B} (h : Own W b v d) (hg : W.grownBy V u.ownBlock) (hx : ∀ k, u.ownBlock = some k → v.ownBlock ≠ some k) : Own V b v d := by
  obtain ⟨h1, h2 | ⟨g, cap, cur, rfl, hb2, hr, h3⟩⟩ := h
  · exact ⟨h1, .inl h2⟩
  · exact ⟨h1, .inr ⟨g, cap, cur, rfl, hb2, (hg.block g (lt_of_row hr) (fun e => hx g e.symm rfl)).trans hr, h3⟩⟩
theorem Fts.grown {W V : World} {b : Nat} {v u : Value} {us : List Value} {fs : List Fd} (h : Fts W b v us fs) (hg : W.grownBy V u.ownBlock) (hx : ∀ k, u.ownBlock = some k → W.heap.size ≤ k ∨ (v.ownBlock ≠ some k ∧ ∀ i, i < us.length → (gv us i).ownBlock ≠ some k)) : Fts V b v us fs := by
  have hh := h.high
  obtain ⟨q1, q2, q3, q4⟩ := h
  refine ⟨?_, q2, fun i hi => (q3 i hi).grown3 hg (fun k e e2 => ?_), q4⟩
  · obtain ⟨p1, p2 | ⟨g, cp, cur, p2, pb, pg, p3⟩⟩ := q1
    · exact ⟨p1, .inl p2⟩
    · refine ⟨p1, .inr ⟨g, cp, cur, p2, pb, (hg.block g (lt_of_row pg) (fun e => ?_)).trans pg, p3⟩⟩
      have hv : v.ownBlock = some g := by rw [p2]; rfl
      have := hh.1 g hv
      rcases hx g e.symm with h | h
      · omega
      · exact h.1 hv
  · have := hh.2 i hi k e2
    rcases hx k e with h | h
    · omega
    · exact h.2 i hi e2
theorem eout_len (fs : List Fd) : (eout fs).length ≤ 4194304 := by
  unfold eout
  split
  · rename_i h
    unfold eer at h
    split at h
    · simp at h
    · split at h
      · rename_i h2; exact absurd h h2
      · split at h
        · simp at h
        · omega
  · simp
set_option maxRecDepth 100000 in
set_option maxHeartbeats 4000000 in
theorem encodes_any (fs : List Fd) (W : World) (v : Value) (hB : Fds W v fs) : Calls Try.prog 3 #[v] W fun e w' => e = .returned (.bool true) ∧ Below W.heap.size W w' := by
  have hlen := hB.len
  have hoks := hide hB.oks
  have hol := eout_len fs
  go_enter Try.func3, Try.ntmps3
  have cX := l_copied fs W v hB
  go_wp2_with (fail)
  refine cX.mono ?_
  rintro e_ w1 ⟨c, us, rfl, hC, hb⟩
  have hw := hb
  have sz1 := hb.size
  clear hb cX
  have hCF := hC.fds hlen hoks.out
  have hch := hC.high
  have cX := a_encode fs w1 c hCF
  go_wp2_with (fail)
  refine cX.mono ?_
  rintro e_ w2 ⟨x, rfl, hx, hb⟩
  replace hw := Below.after hw hb
  have sz2 := hb.size
  replace hC := hC.keep hb
  replace hCF := hCF.keep hb
  clear hb cX
  have hxh := own_high hx
  have hxl := own_low hx
  have cX := a_encode fs w2 c hCF
  go_wp2_with (fail)
  refine cX.mono ?_
  rintro e_ w3 ⟨y, rfl, hy, hb⟩
  replace hw := Below.after hw hb
  have sz3 := hb.size
  replace hC := hC.keep hb
  replace hCF := hCF.keep hb
  replace hx := hx.keep hb
  clear hb cX
  have hyl := own_low hy
  have hyh := own_high hy
  have s3 := hw.size
  have cX := r_encode fs w3 v (hB.keep hw)
  go_wp2_with (fail)
  refine cX.mono ?_
  rintro e_ w4 ⟨z, rfl, hz, hb⟩
  replace hw := Below.after hw hb
  have sz4 := hb.size
  replace hC := hC.keep hb
  replace hCF := hCF.keep hb
  replace hx := hx.keep hb
  replace hy := hy.keep hb
  clear hb cX
  have hzl := own_low hz
  have cX := same_any (bl (eout fs)) w4 x z hx.bys hz.bys
  go_wp2_with (fail)
  refine cX.mono ?_
  rintro e_ w5 ⟨rfl, hb⟩
  replace hw := Below.after hw hb
  have sz5 := hb.size
  replace hC := hC.keep hb
  replace hCF := hCF.keep hb
  replace hx := hx.keep hb
  replace hy := hy.keep hb
  replace hz := hz.keep hb
  clear hb cX
  have cX := same_any (bl (eout fs)) w5 y z hy.bys hz.bys
  go_wp2_with (fail)
  refine cX.mono ?_
  rintro e_ w6 ⟨rfl, hb⟩
  replace hw := Below.after hw hb
  have sz6 := hb.size
  replace hC := hC.keep hb
  replace hCF := hCF.keep hb
  replace hx := hx.keep hb
  replace hy := hy.keep hb
  replace hz := hz.keep hb
  clear hb cX
  have cX := l_alike fs w6 c v hCF (hB.keep hw)
  go_wp2_with (fail)
  refine cX.mono ?_
  rintro e_ w7 ⟨rfl, hb⟩
  replace hw := Below.after hw hb
  have sz7 := hb.size
  replace hC := hC.keep hb
  replace hCF := hCF.keep hb
  replace hx := hx.keep hb
  replace hy := hy.keep hb
  replace hz := hz.keep hb
  clear hb cX
  have cF := l_full2 w7 _ x _ 5 hx (by omega)
  go_wp2_with (fail)
  refine cF.mono ?_
  rintro e_ w8 ⟨rfl, hg⟩
  have hy8 := hy.grown3 hg (fun k e e2 => by have := hxh k e; have := hyl k e2; omega)
  have hz8 := hz.grown3 hg (fun k e e2 => by have := hxh k e; have := hyh k; have := hzl k e2; have := sz3; omega)
  have hC8 := hC.grown hg (fun k e => .inr ⟨fun e2 => by have := hxl k e; have := hch.1 k e2; omega, fun i hi e2 => by have := hxl k e; have := hch.2 i hi k e2; omega⟩)
  have hw8 := hw.grown hg hw.size (fun k e => by have := hxl k e; have := sz1; omega)
  clear hC hx hy hz hw hg cF hCF
  have hCF := hC8.fds hlen hoks.out
  have cS := same_any (bl (eout fs)) w8 y z hy8.bys hz8.bys
  go_wp2_with (fail)
  refine cS.mono ?_
  rintro e_ w9 ⟨rfl, hb⟩
  have hw9 := Below.after hw8 hb
  replace hCF := hCF.keep hb
  clear cS hb
  have cA := l_alike fs w9 c v hCF (hB.keep hw9)
  go_wp2_with (fail)
  refine cA.mono ?_
  rintro e_ w10 ⟨rfl, hb⟩
  have hw10 := Below.after hw9 hb
  clear cA hb
  go_wp2_with (fail)
  go_ret
  exact ⟨rfl, hw10⟩
end Go.Proofs.Ytlglalhddeldbab
