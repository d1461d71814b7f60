import Derived.Test.YtmiljapieehmgaaProg
import Derived.WalkKit
import Derived.WalkSpells
import Derived.WalkLawsBesides
import Derived.Lib.QuietBelow
import Derived.Laws.BitsAllLaws
import Derived.BigQuiet
import Derived.WalkMore
import Derived.Test.YtmiljapieehmgaaKit
import Derived.Test.YtmiljapieehmgaaIc
import Derived.Test.YtmiljapieehmgaaWd
namespace Go.Proofs.Ytmiljapieehmgaa
open Go Go.RowKit Go.Sort
attribute [local go_sem] setCell_drewN alloc_drewN
theorem ver_nat (ver : Int) : ∃ v : Nat, IntKind.wrap .u64 ver = (v : Int) ∧ v < 18446744073709551616 := by
  refine ⟨(ver % 18446744073709551616).toNat, ?_, by omega⟩
  show ver % 18446744073709551616 = _
  omega
theorem bkf_not {v : Nat} (h : known v = false) : bkf v = .nilFunc := by
  unfold known at h
  unfold bkf
  rcases Nat.decEq v 1 with h1 | rfl
  · rcases Nat.decEq v 2 with h2 | rfl
    · simp [h1, h2]
    · simp at h
  · simp at h
theorem oneF (x : Int) (k : FuncId) : (#[Value.int IntKind.u64 x, Value.func (Fn.func k) #[] #[]] : Array Value).all (·.oneCell') = true := by simp [Value.oneCell']
theorem oneN (x : Int) : (#[Value.int IntKind.u64 x, Value.nilFunc] : Array Value).all (·.oneCell') = true := by simp [Value.oneCell']
set_option maxRecDepth 100000 in
set_option maxHeartbeats 4000000 in
theorem a_Bucket (ver : Int) (v : Nat) (hv : IntKind.wrap .u64 ver = (v : Int)) (hv2 : v < 18446744073709551616) (n : Int) : Gives 6 #[.int .i64 ver, .int .i64 n] (.tuple #[.int .i64 (bko v n), .int .i64 (bke v n)]) := by
  intro w
  have c1 := a_rulesOf v hv2 w
  rcases hk : known v
  · rw [hk, bkf_not hk] at c1
    have e1 : bke v n = 100 := by unfold bke; simp [hk]
    have e2 : bko v n = 0 := by unfold bko; simp [e1]
    rw [e1, e2]
    clear e1 e2 hk
    go_enter Try.func6, Try.ntmps6
    go_wp2_with (first | (simp only [hv]) | fail)
    refine c1.mono ?_
    rintro e_ w1 ⟨rfl, hb⟩
    clear c1
    have r0 := hp1_0 w1 (.cells #[Value.int IntKind.u64 0, Value.nilFunc] 38)
    have hb2 := hb.alloc (by have := hb.size; omega) (.cells #[Value.int IntKind.u64 0, Value.nilFunc] 38)
    have hb3 := below_setRow (g := w1.heap.size) hb2 (by have := hb.size; omega) #[Value.int IntKind.u64 (v : Int), Value.nilFunc]
    clear hb hb2
    go_wp2_with (first | (refine wpList_store_row rfl 38 _ _ rfl w1.heap.size #[.int .u64 (v : Int), Value.nilFunc] rfl rfl 38 _ r0 infoR rfl (oneN _) ?_) | fail)
    go_ret2
    exact ⟨rfl, hb3⟩
  · rw [hk, bkf_known hk] at c1
    go_enter Try.func6, Try.ntmps6
    go_wp2_with (first | (simp only [hv]) | fail)
    refine c1.mono ?_
    rintro e_ w1 ⟨rfl, hb⟩
    clear c1
    have r0 := hp1_0 w1 (.cells #[Value.int IntKind.u64 0, Value.nilFunc] 38)
    have hb2 := hb.alloc (by have := hb.size; omega) (.cells #[Value.int IntKind.u64 0, Value.nilFunc] 38)
    have hb3 := below_setRow (g := w1.heap.size) hb2 (by have := hb.size; omega) #[Value.int IntKind.u64 (v : Int), Value.func (Fn.func (bkn v)) #[] #[]]
    have r1 := setRow_heap _ w1.heap.size _ (#[.int .u64 (v : Int), Value.func (Fn.func (bkn v)) #[] #[]]) _ _ r0
    clear hb hb2
    rcases Int.lt_or_le n 0 with q | q
    · have e1 : bke v n = 1 := by unfold bke; simp [hk, q]
      have e2 : bko v n = 0 := by unfold bko; simp [e1]
      go_wp2_with (first | (refine wpList_store_row rfl 38 _ _ rfl w1.heap.size #[.int .u64 (v : Int), Value.func (Fn.func (bkn v)) #[] #[]] rfl rfl 38 _ r0 infoR rfl (oneF _ _) ?_) | fail)
      go_ret2
      exact ⟨by rw [e1, e2]; rfl, hb3⟩
    · rcases Int.lt_or_le 1048576 n with q2 | q2
      · have e1 : bke v n = 2 := by unfold bke; simp [hk, q2]; omega
        have e2 : bko v n = 0 := by unfold bko; simp [e1]
        go_wp2_with (first | (refine wpList_store_row rfl 38 _ _ rfl w1.heap.size #[.int .u64 (v : Int), Value.func (Fn.func (bkn v)) #[] #[]] rfl rfl 38 _ r0 infoR rfl (oneF _ _) ?_) | fail)
        go_ret2
        exact ⟨by rw [e1, e2]; rfl, hb3⟩
      · obtain ⟨m, rfl⟩ : ∃ m : Nat, n = (m : Int) := ⟨n.toNat, by omega⟩
        have e1 : bke v (m : Int) = 0 := by unfold bke; simp [hk]; omega
        have e2 : bko v (m : Int) = (bkd (dg v) (4 + m) : Int) := by unfold bko; simp [e1]
        have c2 := a_bucketOf v m hk (by omega)
        rw [bkf_known hk] at c2
        generalize bkd (dg v) (4 + m) = b at *
        generalize bkn v = f at *
        clear hk
        go_wp2_with (first | (refine wpList_store_row rfl 38 _ _ rfl w1.heap.size #[.int .u64 (v : Int), Value.func (Fn.func f) #[] #[]] rfl rfl 38 _ r0 infoR rfl (oneF _ _) ?_) | (refine wpList_load_want rfl 38 _ rfl w1.heap.size rfl 38 #[.int .u64 (v : Int), Value.func (Fn.func f) #[] #[]] (0, 0) _ r1 Try.underlying38 rfl infoR ?_) | fail)
        refine (c2.at _).mono ?_
        rintro e_ w2 ⟨rfl, hb⟩
        replace hb3 := Below.after hb3 hb
        go_wp2
        go_ret2
        exact ⟨by rw [e1, e2]; rfl, hb3⟩
end Go.Proofs.Ytmiljapieehmgaa
